/-
  A burst in a frame's entry: the law.
-/
import Derived.Test.YtlilmbeehmjpkaaLa
import Derived.Deep.RegionHeld3
namespace Go.Proofs.Ytlilmbeehmjpkaa
open Go.RowKit
/-- Block g holds the bytes of L, to be written over. -/
def Br (w : World) (g : Nat) (L : List UInt8) : Prop := ∃ cur fr, w.heap[g]? = some (.cells cur 5 fr) ∧ L.length ≤ fr.1 ∧ ∀ j, j < L.length → cur[j]? = some (.int .u8 ((L.getD j 0).toNat : Int))
theorem Br.later {w w' : World} {g : Nat} {L : List UInt8} (h : Br w g L) (hb : Below w.heap.size w w') : Br w' g L := by
  obtain ⟨cur, fr, h1, h2⟩ := h
  exact ⟨cur, fr, (hb.block g (Array.getElem?_eq_some_iff.1 h1).1).trans h1, h2⟩
theorem Br.at {w : World} {g : Nat} {L : List UInt8} (h : Br w g L) {j : Nat} (hj : j < L.length) : w.cell? ⟨g, j, none⟩ = some (.int .u8 ((L.getD j 0).toNat : Int)) ∧ w.frozen? ⟨g, j, none⟩ = false := by
  obtain ⟨cur, fr, h1, h3, h2⟩ := h
  refine ⟨(cell_of_row _ _ j _ _ _ h1).trans (h2 j hj), ?_⟩
  simp only [World.frozen?, h1, Bool.and_eq_false_iff, decide_eq_false_iff_not]
  left
  omega
theorem setCell_row {w : World} {g j : Nat} {cur : Array Value} {t : TypeId} {fr : Nat × Nat} (h : w.heap[g]? = some (.cells cur t fr)) (v : Value) : (w.setCell ⟨g, j, none⟩ v).heap[g]? = some (.cells (cur.setIfInBounds j v) t fr) := by
  simp only [World.setCell, Array.getElem?_modify, if_pos, h, Option.map_some]
  rfl
theorem Br.set {w : World} {g : Nat} {L : List UInt8} (h : Br w g L) {j : Nat} (hj : j < L.length) (x : UInt8) : Br (w.setCell ⟨g, j, none⟩ (.int .u8 (x.toNat : Int))) g (L.set j x) := by
  obtain ⟨cur, fr, h1, h3, h2⟩ := h
  refine ⟨cur.setIfInBounds j (.int .u8 (x.toNat : Int)), fr, setCell_row h1 _, by rw [List.length_set]; exact h3, fun i hi => ?_⟩
  rw [List.length_set] at hi
  by_cases e : i = j
  · subst e
    have hl : i < cur.size := by
      have := h2 i hi
      exact (Array.getElem?_eq_some_iff.1 this).1
    rw [Array.getElem?_setIfInBounds_self_of_lt hl]
    simp [hj]
  · rw [Array.getElem?_setIfInBounds_ne (Ne.symm e), h2 i hi]
    simp [List.getElem?_set_ne (Ne.symm e)]
theorem Br.new (w : World) (s : ByteArray) : Br (Lib.bytesWorld w 5 s) w.heap.size s.data.toList := by
  have hn := Lib.bytesWorld_at_new w 5 s
  have hz := bytesCells_size w 5 s
  have hg : s.size ≤ grownCap w s.size 0 5 := grownCap_ge w s.size 0 _
  refine ⟨_, _, hn, by show s.data.toList.length ≤ (Lib.bytesCells w _ s).size; rw [hz]; simpa using hg, fun j hj => ?_⟩
  have h2 := (Rw.new w s).cs j hj
  rw [cell_of_row _ _ j _ _ _ hn] at h2
  have hj2 : j < s.data.size := by simpa using hj
  rw [h2]
  simp [Array.getElem?_eq_getElem hj2]
theorem Br.conv {w : World} {g cap : Nat} {L : List UInt8} (h : Br w g L) : (convert 22 9 (.slice (some ⟨g, 0, none⟩) L.length cap)).run Try.prog w = .ok (.string ⟨L.toArray⟩) w := by
  refine run_convert_bytes_back w 22 9 5 ⟨g, 0, none⟩ cap L Try.underlying22 Try.underlying5 Try.underlying9 (fun j hj => ?_)
  rw [addj, (h.at hj).1]
  simp [List.getElem?_eq_getElem hj]
/-- The drawn list, as the law takes it. -/
def Dw (ca : Option Addr) (cn cc : Nat) (w : World) : Prop := Calls Try.prog 4 #[.slice ca cn cc] w fun e w' => ∃ (L : List ByteArray) (g1 c1 g2 c2 : Nat), e = .returned (.tuple #[.slice (some ⟨g1, 0, none⟩) L.length c1, .slice (some ⟨g2, 0, none⟩) 6 c2]) ∧ L.length ≤ 15 ∧ 1 ≤ L.length ∧ (∀ T ∈ L, 1 ≤ T.size ∧ T.size ≤ 60000) ∧ w'.ownsRow w.heap.size 9 1 (.slice (some ⟨g1, 0, none⟩) L.length c1) L.length (L.map .string) ∧ Below w.heap.size w w'
/-- A burst so far. -/
structure Bu (E E' : List UInt8) (f k : Nat) : Prop where
  len : E'.length = E.length
  x : ∃ X, num E' = num E ^^^ (2 ^ f * X) ∧ X < 2 ^ k ∧ (k = 0 ∨ 1 ≤ X)
theorem Bu.skip {E E' : List UInt8} {f k : Nat} (h : Bu E E' f k) (hk : 1 ≤ k) : Bu E E' f (k + 1) := by
  obtain ⟨h1, X, h2, h3, h4⟩ := h
  exact ⟨h1, X, h2, Nat.lt_of_lt_of_le h3 (Nat.pow_le_pow_right (by omega) (by omega)), Or.inr (by omega)⟩
theorem Bu.flip {E E' : List UInt8} {f k : Nat} (h : Bu E E' f k) (hk : f + k < 8 * E.length) : Bu E (E'.set ((f + k) / 8) (E'.getD ((f + k) / 8) 0 ^^^ UInt8.ofNat (2 ^ ((f + k) % 8)))) f (k + 1) := by
  obtain ⟨h1, X, h2, h3, h4⟩ := h
  refine ⟨by rw [List.length_set]; exact h1, X + 2 ^ k, burst_step h1 h2 h3 hk, ?_, Or.inr ?_⟩
  · rw [Nat.pow_succ]; omega
  · have : 0 < 2 ^ k := Nat.pow_pos (by omega)
    omega
theorem Bu.crc {E E' : List UInt8} {f k : Nat} (h : Bu E E' f k) (hk : 1 ≤ k) (hk2 : k ≤ 32) (hf : f ≤ 8 * E.length) : crc E' ≠ crc E := by
  obtain ⟨h1, X, h2, h3, h4⟩ := h
  have h5 : 2 ^ k ≤ 2 ^ 32 := Nat.pow_le_pow_right (by omega) hk2
  exact crc_burst h1 h2 hf (by omega) (Nat.lt_of_lt_of_le h3 h5)
set_option maxRecDepth 20000 in
set_option maxHeartbeats 16000000 in
theorem lawBurst (ca : Option Addr) (cn cc : Nat) (ma : Option Addr) (mn mc : Nat) (w : World) (hk : CodeAt w ma mn) (hDw : cn ≤ 1048576 → Dw ca cn cc w) :
    Calls Try.prog 3 #[.slice ca cn cc, .slice ma mn mc] w fun e w' => e = .returned (.bool true) ∧ Below w.heap.size w w' := by
  by_cases hA : 1048576 < cn
  · have hA' : (1048576 : Int) < cn := by omega
    clear hDw
    go_enter Try.func3, Try.ntmps3
    go_wp2
    go_ret
    exact ⟨rfl, Below.refl _ _⟩
  have hA' : ¬ (1048576 : Int) < cn := by omega
  by_cases hB : 1048576 < mn
  · have hB' : (1048576 : Int) < mn := by omega
    clear hDw
    go_enter Try.func3, Try.ntmps3
    go_wp2
    go_ret
    exact ⟨rfl, Below.refl _ _⟩
  have hB' : ¬ (1048576 : Int) < mn := by omega
  have HD := hDw (by omega)
  unfold Dw at HD
  clear hDw
  go_enter Try.func3, Try.ntmps3
  go_upto_region 4 with (go_at_call 4; refine HD.mono ?_; rintro e w1 ⟨L, g1, c1, g2, c2, rfl, hL15, hL1, hEs, hO, hb1⟩)
  clear HD
  obtain ⟨nl, hnl⟩ : ∃ nl, L.length = nl := ⟨_, rfl⟩
  have HNL : Hid (L.length = nl) := hnl
  have HES : Hid (∀ T ∈ L, 1 ≤ T.size ∧ T.size ≤ 60000) := hEs
  have HRW := hO.cells (g := g1) rfl
  have HCL : Hid (∀ (j : Nat) (v : Value), (L.map Value.string)[j]? = some v → w1.cell? ((⟨g1, 0, none⟩ : Addr).add j) = some v) := HRW
  rw [hnl] at hL15 hL1 ⊢
  clear hnl hEs hO HRW
  go_upto_region 5 with (go_at_call 5; refine (hPickB ma mn mc 0 (nl : Int) _ (hk.later hb1) (by omega) (by omega) (by omega) (by omega)).mono ?_; rintro e w2 ⟨r, rfl, hr0, hr1, rfl⟩; obtain ⟨j, rfl⟩ : ∃ j : Nat, r = j := ⟨r.toNat, by omega⟩; obtain ⟨E, hE⟩ : ∃ E, L.getD j ⟨#[]⟩ = E := ⟨_, rfl⟩; have hjl : j < L.length := (by rw [HNL.out]; omega); have hEm : E ∈ L := (by rw [← hE]; simp [hjl]); have hc1 : w2.cell? ⟨g1, j, none⟩ = some (.string E) := (by have z := HCL.out j (.string E) (by rw [← hE]; simp [hjl]); rwa [addj] at z); clear hE)
  obtain ⟨hE1, hE2⟩ := HES.out E hEm
  clear HES HCL HNL hEm hjl hc1 hr0 hr1
  have hF := frm_bs hE1 hE2
  obtain ⟨EL, hEL⟩ : ∃ EL, E.data.toList = EL := ⟨_, rfl⟩
  have hEl : EL.length = E.size := by rw [← hEL]; simp
  have hEb : bs EL = E := by rw [← hEL]; exact bs_of E
  rw [hEL, hEb] at hF
  have hch := ch_frame (E := EL) (by omega) (by omega)
  rw [hEb, ← hF, hEl] at hch
  have hfs : (frm E).size = 8 + E.size := by
    rw [hF, bs_size]
    simp [numI_len, hEl]
    omega
  have hsc := iScan (frm E) (by omega) [E] (8 + E.size) hch (by rw [← hfs]; exact rst_nil) (by omega) (by simp; omega)
  obtain ⟨F, hFF⟩ : ∃ F, frm E = F := ⟨_, rfl⟩
  rw [hFF] at hfs hsc hF
  have HFR := iFrame E w2 (by omega)
  rw [hFF] at HFR
  have HF : Hid (F = bs (numI 4 (EL.length : Int) ++ numI 4 ((crcOf (bs EL) : Nat) : Int) ++ EL)) := by rw [hEb, hEl] ; rw [hEl] at hF; exact hF
  have HSC : Hid (∀ w, Calls Try.prog 7 #[.string F] w fun e w' => ∃ g cap, e = .returned (.tuple #[.slice (some ⟨g, 0, none⟩) 1 cap, .int .i64 ((8 + E.size : Nat) : Int)]) ∧ OwnS w' w.heap.size g cap [E] ∧ Below w.heap.size w w') := hsc
  have hfi : (F.size : Int) = E.size + 8 := by omega
  have HEL : Hid (EL.length = E.size) := hEl
  have HEB : Hid (bs EL = E) := hEb
  clear hch hsc hF hFF hEL hEb hEl
  go_upto_region 7 with (first | (go_at_call 6; refine HFR.mono ?_; rintro e w3 ⟨rfl, hb3⟩) | (go_at_call 7; refine (HSC.out _).mono ?_; rintro e w4 ⟨g4, cap4, rfl, hO4, hb4⟩))
  have hb04 := bstep (bstep hb1 hb3) hb4
  have hc4 : w4.cell? ⟨g4, 0, none⟩ = some (.string E) := by have z := hO4.cells (g := g4) rfl 0 (.string E) rfl; rwa [addj] at z
  have hn8 : (((8 + E.size : Nat) : Int)) = E.size + 8 := by omega
  clear hO4
  have hst := hStr1 g4 w4.heap.size cap4 1 E (w4.alloc (.cells #[.string E] 9)) (keepB (bal _ _) hc4) ((cell_of_row _ _ 0 _ _ _ (heap_alloc_new w4 _)).trans rfl)
  go_upto_region 9 with (go_at_call 8; refine hst.mono ?_; rintro e w5 ⟨rfl, hb5⟩)
  have hb05 := bstep hb04 (bstep (bal _ _) hb5)
  clear hst hc4 hb5
  have e8 : IntKind.i64.wrap (8 * (E.size : Int)) = 8 * E.size := by rw [IntKind.wrap_i64]; omega
  have hz8 : ¬ (8 * (E.size : Int)) = 0 := by omega
  have hone : True := trivial
  go_upto_region 10 with (first | (go_at_call 5; have _h := hone; refine (hPickB ma mn mc 1 256 _ (hk.later hb05) (by omega) (by omega) (by omega) (by omega)).mono ?_; rintro e w6 ⟨r1, rfl, hr10, hr11, rfl⟩; clear hone) | (go_at_call 5; refine (hPickB ma mn mc 2 256 _ (hk.later hb05) (by omega) (by omega) (by omega) (by omega)).mono ?_; rintro e w7 ⟨r2, rfl, hr20, hr21, rfl⟩))
  obtain ⟨f, hf, hfl⟩ : ∃ f : Nat, (r1 * 256 + r2) % (8 * (E.size : Int)) = (f : Int) ∧ f < 8 * E.size := by
    have q0 := Int.emod_nonneg (r1 * 256 + r2) hz8
    have q1 := Int.emod_lt_of_pos (r1 * 256 + r2) (show (0 : Int) < 8 * E.size by omega)
    exact ⟨((r1 * 256 + r2) % (8 * (E.size : Int))).toNat, by omega, by omega⟩
  rw [hf]
  clear hf hr10 hr11 hr20 hr21
  have hcv := Lib.run_convert_string_bytes (P := Try.prog) w7 9 22 5 F Try.underlying9 Try.underlying22 Try.underlying5
  have hBr0 := Br.new w7 F
  have hbN := growB w7 F
  obtain ⟨hd, hhd⟩ : ∃ hd, numI 4 (EL.length : Int) ++ numI 4 ((crcOf (bs EL) : Nat) : Int) = hd := ⟨_, rfl⟩
  have hdl : hd.length = 8 := by rw [← hhd]; simp [numI_len]
  have hFd : F.data.toList = hd ++ EL := by rw [HF.out, bs_data, hhd]
  rw [hFd] at hBr0
  have HHD : Hid (numI 4 (EL.length : Int) ++ numI 4 ((crcOf (bs EL) : Nat) : Int) = hd) := hhd
  clear hFd hhd HF
  go_upto_region 11 with (fail)
  clear hcv
  have hb07 := bstep hb05 hbN
  have hgB : w.heap.size ≤ w7.heap.size := hb05.size
  generalize Lib.bytesWorld w7 5 F = W at hBr0 hb07 ⊢
  generalize grownCap w7 (8 + E.size) 0 5 = capB at ⊢
  generalize w7.heap.size = gB at hBr0 hgB ⊢
  have hel : EL.length = E.size := HEL.out
  have hfe : f < 8 * EL.length := by omega
  clear hel
  go_wp2
  go_loopw [13, 14] (fun i _ wr => ∃ (k : Nat) (E' : List UInt8), k ≤ 32 ∧ i = .int .i64 k ∧ Bu EL E' f k ∧ Br wr gB (hd ++ E') ∧ Below w.heap.size w wr) (fun i _ _ => 32 - (intOf i).toNat)
  case atStart => exact ⟨0, EL, by omega, rfl, ⟨rfl, 0, by simp, by simp, Or.inl rfl⟩, hBr0, hb07⟩
  case round =>
    obtain ⟨k, E', hk32, rfl, hBu, hBr, hbr⟩ := hrel
    have HBU : Hid (Bu EL E' f k) := hBu
    have hlE : E'.length = EL.length := hBu.len
    clear hBu
    by_cases hgo : k < 32 ∧ f + k < 8 * E.size
    · obtain ⟨hk1, hk2⟩ := hgo
      have hk1' : (k : Int) < 32 := by omega
      have hk2' : (f : Int) + (k : Int) < 8 * (E.size : Int) := by omega
      have ew : IntKind.i64.wrap ((f : Int) + (k : Int)) = f + k := by rw [IntKind.wrap_i64]; omega
      have e3 : IntKind.i64.wrap (3 + (k : Int)) = 3 + k := by rw [IntKind.wrap_i64]; omega
      have ek : IntKind.i64.wrap ((k : Int) + 1) = k + 1 := by rw [IntKind.wrap_i64]; omega
      obtain ⟨q, hq⟩ : ∃ q : Nat, q = (f + k) / 8 := ⟨_, rfl⟩
      obtain ⟨r, hr⟩ : ∃ r : Nat, r = (f + k) % 8 := ⟨_, rfl⟩
      have hq1 : IntKind.i64.wrap (((f : Int) + (k : Int)).tdiv 8) = (q : Int) := by rw [Int.tdiv_eq_ediv_of_nonneg (by omega), IntKind.wrap_i64]; omega
      have hq2 : IntKind.i64.wrap (8 + (q : Int)) = 8 + q := by rw [IntKind.wrap_i64]; omega
      have hq3 : (0 : Int) ≤ 8 + (q : Int) := by omega
      have hq4 : (8 : Int) + (q : Int) < (E.size : Int) + 8 := by omega
      have hq5 : ((8 : Int) + (q : Int)).toNat = 8 + q := by omega
      have hr1 : ((f : Int) + (k : Int)).tmod 8 = (r : Int) := by rw [Int.tmod_eq_emod_of_nonneg (by omega)]; omega
      have hr8 : r < 8 := by omega
      have hqE : q < E'.length := by rw [hlE, HEL.out]; omega
      have hix : 8 + q < (hd ++ E').length := by rw [List.length_append, hdl]; omega
      obtain ⟨X, hX⟩ : ∃ X, E'.getD q 0 = X := ⟨_, rfl⟩
      have hgx : (hd ++ E').getD (8 + q) 0 = X := by
        rw [← hX]
        simp [List.getElem?_append_right (show hd.length ≤ 8 + q by omega), hdl]
      obtain ⟨Y, hY⟩ : ∃ Y, UInt8.ofNat (2 ^ r) = Y := ⟨_, rfl⟩
      have hsh : (2 : Int) ^ r % 256 = (Y.toNat : Int) := by
        rw [← hY]
        rcases (show r = 0 ∨ r = 1 ∨ r = 2 ∨ r = 3 ∨ r = 4 ∨ r = 5 ∨ r = 6 ∨ r = 7 by omega) with e | e | e | e | e | e | e | e <;> (rw [e]; rfl)
      have hxo : bits .xor .u8 (X.toNat : Int) (Y.toNat : Int) = (((X ^^^ Y).toNat : Nat) : Int) := by rw [xor_u8 _ _ X.toNat_lt Y.toNat_lt, UInt8.toNat_xor]
      have HQ : Hid (q = (f + k) / 8 ∧ r = (f + k) % 8 ∧ E'.getD q 0 = X ∧ q < E'.length ∧ UInt8.ofNat (2 ^ r) = Y) := ⟨hq, hr, hX, hqE, hY⟩
      have HVX : Hid (bits .xor .u8 (X.toNat : Int) ((2 : Int) ^ r % 256) = (((X ^^^ Y).toNat : Nat) : Int)) := by
        show _ = _
        rw [hsh]
        exact hxo
      clear hsh hxo
      have HFL : Hid (Bu EL (E'.set q (X ^^^ Y)) f (k + 1)) := by
        have z := HBU.out.flip (by rw [HEL.out]; exact hk2)
        rw [← hq, ← hr, hX, hY] at z
        exact z
      have HSA : Hid ((hd ++ E').set (8 + q) (X ^^^ Y) = hd ++ E'.set q (X ^^^ Y)) := by
        show _ = _
        rw [List.set_append_right _ _ (by omega)]
        simp [hdl]
      clear hq hr hX hqE hY HQ
      by_cases hk0 : k = 0
      · have hkb : ((k : Int) == 0) = true := by simpa using hk0
        clear hk0
        go_upto_region 16 with (fail)
        have hS0 : Br wr.drew gB (hd ++ E') := hBr
        refine AnyT.begin (fun x => Br x gB (hd ++ E')) 15 (by kernel_rfl) ?_
        refine' AnyT.take (i := 0) (oi := ({ dst := some 98, op := Op.move (Operand.tmp 12), type := 22, pos := "laws.go:307", after := #[], guard := none } : Oper)) (ot := ({ dst := none, op := Op.store 5 (Operand.tmp 112) (Operand.tmp 111), type := 0, pos := "laws.go:307", after := #[{ on := 14, ground := Ground.data }, { on := 13, ground := Ground.data }, { on := 0, ground := Ground.phase }, { on := 1, ground := Ground.phase }, { on := 2, ground := Ground.phase }, { on := 3, ground := Ground.phase }, { on := 4, ground := Ground.phase }, { on := 5, ground := Ground.phase }, { on := 6, ground := Ground.phase }, { on := 7, ground := Ground.phase }, { on := 8, ground := Ground.phase }, { on := 9, ground := Ground.phase }, { on := 10, ground := Ground.phase }, { on := 11, ground := Ground.phase }, { on := 12, ground := Ground.phase }, { on := 13, ground := Ground.phase }], guard := none } : Oper)) (v := _) rfl (by decide) rfl (by kernel_rfl) (by kernel_rfl) (by kernel_rfl) (by kernel_rfl) (fun _ _ _ h => h) (Or.inl ⟨by rfl, fun x hSw => ?hyt1_0⟩) hS0 ?restt1_0
        case hyt1_0 =>
          skip
          go_simp
          try with_reducible rfl
        try simp only [Act.put, List.setIfInBounds_toArray, List.set_cons_zero, List.set_cons_succ]
        refine' AnyT.take (i := 1) (oi := ({ dst := some 99, op := Op.move (Operand.tmp 14), type := 3, pos := "laws.go:307", after := #[], guard := none } : Oper)) (ot := ({ dst := none, op := Op.store 5 (Operand.tmp 112) (Operand.tmp 111), type := 0, pos := "laws.go:307", after := #[{ on := 14, ground := Ground.data }, { on := 13, ground := Ground.data }, { on := 0, ground := Ground.phase }, { on := 1, ground := Ground.phase }, { on := 2, ground := Ground.phase }, { on := 3, ground := Ground.phase }, { on := 4, ground := Ground.phase }, { on := 5, ground := Ground.phase }, { on := 6, ground := Ground.phase }, { on := 7, ground := Ground.phase }, { on := 8, ground := Ground.phase }, { on := 9, ground := Ground.phase }, { on := 10, ground := Ground.phase }, { on := 11, ground := Ground.phase }, { on := 12, ground := Ground.phase }, { on := 13, ground := Ground.phase }], guard := none } : Oper)) (v := _) rfl (by decide) rfl (by kernel_rfl) (by kernel_rfl) (by kernel_rfl) (by kernel_rfl) (fun _ _ _ h => h) (Or.inl ⟨by rfl, fun x hSw => ?hyt1_1⟩) hS0 ?restt1_1
        case hyt1_1 =>
          skip
          go_simp
          try with_reducible rfl
        try simp only [Act.put, List.setIfInBounds_toArray, List.set_cons_zero, List.set_cons_succ]
        refine' AnyT.take (i := 2) (oi := ({ dst := some 100, op := Op.binOp BinOp.quo 3 (Operand.tmp 99) (Operand.const (Value.int IntKind.i64 8)) 3, type := 3, pos := "laws.go:307", after := #[{ on := 1, ground := Ground.data }], guard := none } : Oper)) (ot := ({ dst := none, op := Op.store 5 (Operand.tmp 112) (Operand.tmp 111), type := 0, pos := "laws.go:307", after := #[{ on := 14, ground := Ground.data }, { on := 13, ground := Ground.data }, { on := 0, ground := Ground.phase }, { on := 1, ground := Ground.phase }, { on := 2, ground := Ground.phase }, { on := 3, ground := Ground.phase }, { on := 4, ground := Ground.phase }, { on := 5, ground := Ground.phase }, { on := 6, ground := Ground.phase }, { on := 7, ground := Ground.phase }, { on := 8, ground := Ground.phase }, { on := 9, ground := Ground.phase }, { on := 10, ground := Ground.phase }, { on := 11, ground := Ground.phase }, { on := 12, ground := Ground.phase }, { on := 13, ground := Ground.phase }], guard := none } : Oper)) (v := _) rfl (by decide) rfl (by kernel_rfl) (by kernel_rfl) (by kernel_rfl) (by kernel_rfl) (fun _ _ _ h => h) (Or.inl ⟨by rfl, fun x hSw => ?hyt1_2⟩) hS0 ?restt1_2
        case hyt1_2 =>
          skip
          go_simp
          try with_reducible rfl
        try simp only [Act.put, List.setIfInBounds_toArray, List.set_cons_zero, List.set_cons_succ]
        refine' AnyT.take (i := 3) (oi := ({ dst := some 101, op := Op.binOp BinOp.add 3 (Operand.const (Value.int IntKind.i64 8)) (Operand.tmp 100) 3, type := 3, pos := "laws.go:307", after := #[{ on := 2, ground := Ground.data }], guard := none } : Oper)) (ot := ({ dst := none, op := Op.store 5 (Operand.tmp 112) (Operand.tmp 111), type := 0, pos := "laws.go:307", after := #[{ on := 14, ground := Ground.data }, { on := 13, ground := Ground.data }, { on := 0, ground := Ground.phase }, { on := 1, ground := Ground.phase }, { on := 2, ground := Ground.phase }, { on := 3, ground := Ground.phase }, { on := 4, ground := Ground.phase }, { on := 5, ground := Ground.phase }, { on := 6, ground := Ground.phase }, { on := 7, ground := Ground.phase }, { on := 8, ground := Ground.phase }, { on := 9, ground := Ground.phase }, { on := 10, ground := Ground.phase }, { on := 11, ground := Ground.phase }, { on := 12, ground := Ground.phase }, { on := 13, ground := Ground.phase }], guard := none } : Oper)) (v := _) rfl (by decide) rfl (by kernel_rfl) (by kernel_rfl) (by kernel_rfl) (by kernel_rfl) (fun _ _ _ h => h) (Or.inl ⟨by rfl, fun x hSw => ?hyt1_3⟩) hS0 ?restt1_3
        case hyt1_3 =>
          skip
          go_simp
          try with_reducible rfl
        try simp only [Act.put, List.setIfInBounds_toArray, List.set_cons_zero, List.set_cons_succ]
        refine' AnyT.take (i := 4) (oi := ({ dst := some 102, op := Op.move (Operand.tmp 12), type := 22, pos := "laws.go:307", after := #[], guard := none } : Oper)) (ot := ({ dst := none, op := Op.store 5 (Operand.tmp 112) (Operand.tmp 111), type := 0, pos := "laws.go:307", after := #[{ on := 14, ground := Ground.data }, { on := 13, ground := Ground.data }, { on := 0, ground := Ground.phase }, { on := 1, ground := Ground.phase }, { on := 2, ground := Ground.phase }, { on := 3, ground := Ground.phase }, { on := 4, ground := Ground.phase }, { on := 5, ground := Ground.phase }, { on := 6, ground := Ground.phase }, { on := 7, ground := Ground.phase }, { on := 8, ground := Ground.phase }, { on := 9, ground := Ground.phase }, { on := 10, ground := Ground.phase }, { on := 11, ground := Ground.phase }, { on := 12, ground := Ground.phase }, { on := 13, ground := Ground.phase }], guard := none } : Oper)) (v := _) rfl (by decide) rfl (by kernel_rfl) (by kernel_rfl) (by kernel_rfl) (by kernel_rfl) (fun _ _ _ h => h) (Or.inl ⟨by rfl, fun x hSw => ?hyt1_4⟩) hS0 ?restt1_4
        case hyt1_4 =>
          skip
          go_simp
          try with_reducible rfl
        try simp only [Act.put, List.setIfInBounds_toArray, List.set_cons_zero, List.set_cons_succ]
        refine' AnyT.take (i := 5) (oi := ({ dst := some 103, op := Op.move (Operand.tmp 14), type := 3, pos := "laws.go:307", after := #[], guard := none } : Oper)) (ot := ({ dst := none, op := Op.store 5 (Operand.tmp 112) (Operand.tmp 111), type := 0, pos := "laws.go:307", after := #[{ on := 14, ground := Ground.data }, { on := 13, ground := Ground.data }, { on := 0, ground := Ground.phase }, { on := 1, ground := Ground.phase }, { on := 2, ground := Ground.phase }, { on := 3, ground := Ground.phase }, { on := 4, ground := Ground.phase }, { on := 5, ground := Ground.phase }, { on := 6, ground := Ground.phase }, { on := 7, ground := Ground.phase }, { on := 8, ground := Ground.phase }, { on := 9, ground := Ground.phase }, { on := 10, ground := Ground.phase }, { on := 11, ground := Ground.phase }, { on := 12, ground := Ground.phase }, { on := 13, ground := Ground.phase }], guard := none } : Oper)) (v := _) rfl (by decide) rfl (by kernel_rfl) (by kernel_rfl) (by kernel_rfl) (by kernel_rfl) (fun _ _ _ h => h) (Or.inl ⟨by rfl, fun x hSw => ?hyt1_5⟩) hS0 ?restt1_5
        case hyt1_5 =>
          skip
          go_simp
          try with_reducible rfl
        try simp only [Act.put, List.setIfInBounds_toArray, List.set_cons_zero, List.set_cons_succ]
        refine' AnyT.take (i := 6) (oi := ({ dst := some 104, op := Op.binOp BinOp.quo 3 (Operand.tmp 103) (Operand.const (Value.int IntKind.i64 8)) 3, type := 3, pos := "laws.go:307", after := #[{ on := 5, ground := Ground.data }], guard := none } : Oper)) (ot := ({ dst := none, op := Op.store 5 (Operand.tmp 112) (Operand.tmp 111), type := 0, pos := "laws.go:307", after := #[{ on := 14, ground := Ground.data }, { on := 13, ground := Ground.data }, { on := 0, ground := Ground.phase }, { on := 1, ground := Ground.phase }, { on := 2, ground := Ground.phase }, { on := 3, ground := Ground.phase }, { on := 4, ground := Ground.phase }, { on := 5, ground := Ground.phase }, { on := 6, ground := Ground.phase }, { on := 7, ground := Ground.phase }, { on := 8, ground := Ground.phase }, { on := 9, ground := Ground.phase }, { on := 10, ground := Ground.phase }, { on := 11, ground := Ground.phase }, { on := 12, ground := Ground.phase }, { on := 13, ground := Ground.phase }], guard := none } : Oper)) (v := _) rfl (by decide) rfl (by kernel_rfl) (by kernel_rfl) (by kernel_rfl) (by kernel_rfl) (fun _ _ _ h => h) (Or.inl ⟨by rfl, fun x hSw => ?hyt1_6⟩) hS0 ?restt1_6
        case hyt1_6 =>
          skip
          go_simp
          try with_reducible rfl
        try simp only [Act.put, List.setIfInBounds_toArray, List.set_cons_zero, List.set_cons_succ]
        refine' AnyT.take (i := 7) (oi := ({ dst := some 105, op := Op.binOp BinOp.add 3 (Operand.const (Value.int IntKind.i64 8)) (Operand.tmp 104) 3, type := 3, pos := "laws.go:307", after := #[{ on := 6, ground := Ground.data }], guard := none } : Oper)) (ot := ({ dst := none, op := Op.store 5 (Operand.tmp 112) (Operand.tmp 111), type := 0, pos := "laws.go:307", after := #[{ on := 14, ground := Ground.data }, { on := 13, ground := Ground.data }, { on := 0, ground := Ground.phase }, { on := 1, ground := Ground.phase }, { on := 2, ground := Ground.phase }, { on := 3, ground := Ground.phase }, { on := 4, ground := Ground.phase }, { on := 5, ground := Ground.phase }, { on := 6, ground := Ground.phase }, { on := 7, ground := Ground.phase }, { on := 8, ground := Ground.phase }, { on := 9, ground := Ground.phase }, { on := 10, ground := Ground.phase }, { on := 11, ground := Ground.phase }, { on := 12, ground := Ground.phase }, { on := 13, ground := Ground.phase }], guard := none } : Oper)) (v := _) rfl (by decide) rfl (by kernel_rfl) (by kernel_rfl) (by kernel_rfl) (by kernel_rfl) (fun _ _ _ h => h) (Or.inl ⟨by rfl, fun x hSw => ?hyt1_7⟩) hS0 ?restt1_7
        case hyt1_7 =>
          skip
          go_simp
          try with_reducible rfl
        try simp only [Act.put, List.setIfInBounds_toArray, List.set_cons_zero, List.set_cons_succ]
        refine' AnyT.take (i := 8) (oi := ({ dst := some 106, op := Op.indexAddr 22 (Operand.tmp 102) (Operand.tmp 105), type := 0, pos := "laws.go:307", after := #[{ on := 4, ground := Ground.data }, { on := 7, ground := Ground.data }], guard := none } : Oper)) (ot := ({ dst := none, op := Op.store 5 (Operand.tmp 112) (Operand.tmp 111), type := 0, pos := "laws.go:307", after := #[{ on := 14, ground := Ground.data }, { on := 13, ground := Ground.data }, { on := 0, ground := Ground.phase }, { on := 1, ground := Ground.phase }, { on := 2, ground := Ground.phase }, { on := 3, ground := Ground.phase }, { on := 4, ground := Ground.phase }, { on := 5, ground := Ground.phase }, { on := 6, ground := Ground.phase }, { on := 7, ground := Ground.phase }, { on := 8, ground := Ground.phase }, { on := 9, ground := Ground.phase }, { on := 10, ground := Ground.phase }, { on := 11, ground := Ground.phase }, { on := 12, ground := Ground.phase }, { on := 13, ground := Ground.phase }], guard := none } : Oper)) (v := _) rfl (by decide) rfl (by kernel_rfl) (by kernel_rfl) (by kernel_rfl) (by kernel_rfl) (fun _ _ _ h => h) (Or.inl ⟨by rfl, fun x hSw => ?hyt1_8⟩) hS0 ?restt1_8
        case hyt1_8 =>
          skip
          go_simp
          try with_reducible rfl
        try simp only [Act.put, List.setIfInBounds_toArray, List.set_cons_zero, List.set_cons_succ]
        refine' AnyT.take (i := 9) (oi := ({ dst := some 107, op := Op.load 5 (Operand.tmp 106), type := 5, pos := "laws.go:307", after := #[{ on := 8, ground := Ground.data }], guard := none } : Oper)) (ot := ({ dst := none, op := Op.store 5 (Operand.tmp 112) (Operand.tmp 111), type := 0, pos := "laws.go:307", after := #[{ on := 14, ground := Ground.data }, { on := 13, ground := Ground.data }, { on := 0, ground := Ground.phase }, { on := 1, ground := Ground.phase }, { on := 2, ground := Ground.phase }, { on := 3, ground := Ground.phase }, { on := 4, ground := Ground.phase }, { on := 5, ground := Ground.phase }, { on := 6, ground := Ground.phase }, { on := 7, ground := Ground.phase }, { on := 8, ground := Ground.phase }, { on := 9, ground := Ground.phase }, { on := 10, ground := Ground.phase }, { on := 11, ground := Ground.phase }, { on := 12, ground := Ground.phase }, { on := 13, ground := Ground.phase }], guard := none } : Oper)) (v := _) rfl (by decide) rfl (by kernel_rfl) (by kernel_rfl) (by kernel_rfl) (by kernel_rfl) (fun _ _ _ h => h) (Or.inl ⟨by rfl, fun x hSw => ?hyt1_9⟩) hS0 ?restt1_9
        case hyt1_9 =>
          obtain ⟨d0_, -⟩ := Br.at hSw hix; rw [hgx] at d0_
          go_simp
          try with_reducible rfl
        try simp only [Act.put, List.setIfInBounds_toArray, List.set_cons_zero, List.set_cons_succ]
        refine' AnyT.take (i := 10) (oi := ({ dst := some 108, op := Op.move (Operand.tmp 14), type := 3, pos := "laws.go:307", after := #[], guard := none } : Oper)) (ot := ({ dst := none, op := Op.store 5 (Operand.tmp 112) (Operand.tmp 111), type := 0, pos := "laws.go:307", after := #[{ on := 14, ground := Ground.data }, { on := 13, ground := Ground.data }, { on := 0, ground := Ground.phase }, { on := 1, ground := Ground.phase }, { on := 2, ground := Ground.phase }, { on := 3, ground := Ground.phase }, { on := 4, ground := Ground.phase }, { on := 5, ground := Ground.phase }, { on := 6, ground := Ground.phase }, { on := 7, ground := Ground.phase }, { on := 8, ground := Ground.phase }, { on := 9, ground := Ground.phase }, { on := 10, ground := Ground.phase }, { on := 11, ground := Ground.phase }, { on := 12, ground := Ground.phase }, { on := 13, ground := Ground.phase }], guard := none } : Oper)) (v := _) rfl (by decide) rfl (by kernel_rfl) (by kernel_rfl) (by kernel_rfl) (by kernel_rfl) (fun _ _ _ h => h) (Or.inl ⟨by rfl, fun x hSw => ?hyt1_10⟩) hS0 ?restt1_10
        case hyt1_10 =>
          skip
          go_simp
          try with_reducible rfl
        try simp only [Act.put, List.setIfInBounds_toArray, List.set_cons_zero, List.set_cons_succ]
        refine' AnyT.take (i := 11) (oi := ({ dst := some 109, op := Op.binOp BinOp.rem 3 (Operand.tmp 108) (Operand.const (Value.int IntKind.i64 8)) 3, type := 3, pos := "laws.go:307", after := #[{ on := 10, ground := Ground.data }], guard := none } : Oper)) (ot := ({ dst := none, op := Op.store 5 (Operand.tmp 112) (Operand.tmp 111), type := 0, pos := "laws.go:307", after := #[{ on := 14, ground := Ground.data }, { on := 13, ground := Ground.data }, { on := 0, ground := Ground.phase }, { on := 1, ground := Ground.phase }, { on := 2, ground := Ground.phase }, { on := 3, ground := Ground.phase }, { on := 4, ground := Ground.phase }, { on := 5, ground := Ground.phase }, { on := 6, ground := Ground.phase }, { on := 7, ground := Ground.phase }, { on := 8, ground := Ground.phase }, { on := 9, ground := Ground.phase }, { on := 10, ground := Ground.phase }, { on := 11, ground := Ground.phase }, { on := 12, ground := Ground.phase }, { on := 13, ground := Ground.phase }], guard := none } : Oper)) (v := _) rfl (by decide) rfl (by kernel_rfl) (by kernel_rfl) (by kernel_rfl) (by kernel_rfl) (fun _ _ _ h => h) (Or.inl ⟨by rfl, fun x hSw => ?hyt1_11⟩) hS0 ?restt1_11
        case hyt1_11 =>
          skip
          go_simp
          try with_reducible rfl
        try simp only [Act.put, List.setIfInBounds_toArray, List.set_cons_zero, List.set_cons_succ]
        refine' AnyT.take (i := 12) (oi := ({ dst := some 110, op := Op.binOp BinOp.shl 5 (Operand.const (Value.int IntKind.u8 1)) (Operand.tmp 109) 3, type := 5, pos := "laws.go:307", after := #[{ on := 11, ground := Ground.data }], guard := none } : Oper)) (ot := ({ dst := none, op := Op.store 5 (Operand.tmp 112) (Operand.tmp 111), type := 0, pos := "laws.go:307", after := #[{ on := 14, ground := Ground.data }, { on := 13, ground := Ground.data }, { on := 0, ground := Ground.phase }, { on := 1, ground := Ground.phase }, { on := 2, ground := Ground.phase }, { on := 3, ground := Ground.phase }, { on := 4, ground := Ground.phase }, { on := 5, ground := Ground.phase }, { on := 6, ground := Ground.phase }, { on := 7, ground := Ground.phase }, { on := 8, ground := Ground.phase }, { on := 9, ground := Ground.phase }, { on := 10, ground := Ground.phase }, { on := 11, ground := Ground.phase }, { on := 12, ground := Ground.phase }, { on := 13, ground := Ground.phase }], guard := none } : Oper)) (v := _) rfl (by decide) rfl (by kernel_rfl) (by kernel_rfl) (by kernel_rfl) (by kernel_rfl) (fun _ _ _ h => h) (Or.inl ⟨by rfl, fun x hSw => ?hyt1_12⟩) hS0 ?restt1_12
        case hyt1_12 =>
          skip
          go_simp
          try with_reducible rfl
        try simp only [Act.put, List.setIfInBounds_toArray, List.set_cons_zero, List.set_cons_succ]
        refine' AnyT.take (i := 13) (oi := ({ dst := some 111, op := Op.binOp BinOp.xor 5 (Operand.tmp 107) (Operand.tmp 110) 5, type := 5, pos := "laws.go:307", after := #[{ on := 9, ground := Ground.data }, { on := 12, ground := Ground.data }], guard := none } : Oper)) (ot := ({ dst := none, op := Op.store 5 (Operand.tmp 112) (Operand.tmp 111), type := 0, pos := "laws.go:307", after := #[{ on := 14, ground := Ground.data }, { on := 13, ground := Ground.data }, { on := 0, ground := Ground.phase }, { on := 1, ground := Ground.phase }, { on := 2, ground := Ground.phase }, { on := 3, ground := Ground.phase }, { on := 4, ground := Ground.phase }, { on := 5, ground := Ground.phase }, { on := 6, ground := Ground.phase }, { on := 7, ground := Ground.phase }, { on := 8, ground := Ground.phase }, { on := 9, ground := Ground.phase }, { on := 10, ground := Ground.phase }, { on := 11, ground := Ground.phase }, { on := 12, ground := Ground.phase }, { on := 13, ground := Ground.phase }], guard := none } : Oper)) (v := _) rfl (by decide) rfl (by kernel_rfl) (by kernel_rfl) (by kernel_rfl) (by kernel_rfl) (fun _ _ _ h => h) (Or.inl ⟨by rfl, fun x hSw => ?hyt1_13⟩) hS0 ?restt1_13
        case hyt1_13 =>
          skip
          go_simp
          try with_reducible rfl
        try simp only [Act.put, List.setIfInBounds_toArray, List.set_cons_zero, List.set_cons_succ]
        refine' AnyT.take (i := 14) (oi := ({ dst := some 112, op := Op.indexAddr 22 (Operand.tmp 98) (Operand.tmp 101), type := 0, pos := "laws.go:307", after := #[{ on := 0, ground := Ground.data }, { on := 3, ground := Ground.data }, { on := 0, ground := Ground.phase }, { on := 1, ground := Ground.phase }, { on := 2, ground := Ground.phase }, { on := 3, ground := Ground.phase }, { on := 4, ground := Ground.phase }, { on := 5, ground := Ground.phase }, { on := 6, ground := Ground.phase }, { on := 7, ground := Ground.phase }, { on := 8, ground := Ground.phase }, { on := 9, ground := Ground.phase }, { on := 10, ground := Ground.phase }, { on := 11, ground := Ground.phase }, { on := 12, ground := Ground.phase }, { on := 13, ground := Ground.phase }], guard := none } : Oper)) (ot := ({ dst := none, op := Op.store 5 (Operand.tmp 112) (Operand.tmp 111), type := 0, pos := "laws.go:307", after := #[{ on := 14, ground := Ground.data }, { on := 13, ground := Ground.data }, { on := 0, ground := Ground.phase }, { on := 1, ground := Ground.phase }, { on := 2, ground := Ground.phase }, { on := 3, ground := Ground.phase }, { on := 4, ground := Ground.phase }, { on := 5, ground := Ground.phase }, { on := 6, ground := Ground.phase }, { on := 7, ground := Ground.phase }, { on := 8, ground := Ground.phase }, { on := 9, ground := Ground.phase }, { on := 10, ground := Ground.phase }, { on := 11, ground := Ground.phase }, { on := 12, ground := Ground.phase }, { on := 13, ground := Ground.phase }], guard := none } : Oper)) (v := _) rfl (by decide) rfl (by kernel_rfl) (by kernel_rfl) (by kernel_rfl) (by kernel_rfl) (fun _ _ _ h => h) (Or.inl ⟨by rfl, fun x hSw => ?hyt1_14⟩) hS0 ?restt1_14
        case hyt1_14 =>
          skip
          go_simp
          try with_reducible rfl
        try simp only [Act.put, List.setIfInBounds_toArray, List.set_cons_zero, List.set_cons_succ]
        refine AnyT.ready (rs := [15]) (by kernel_rfl) (by simp) ?_
        refine (ReadyT.cons (o := ({ dst := none, op := Op.store 5 (Operand.tmp 112) (Operand.tmp 111), type := 0, pos := "laws.go:307", after := #[{ on := 14, ground := Ground.data }, { on := 13, ground := Ground.data }, { on := 0, ground := Ground.phase }, { on := 1, ground := Ground.phase }, { on := 2, ground := Ground.phase }, { on := 3, ground := Ground.phase }, { on := 4, ground := Ground.phase }, { on := 5, ground := Ground.phase }, { on := 6, ground := Ground.phase }, { on := 7, ground := Ground.phase }, { on := 8, ground := Ground.phase }, { on := 9, ground := Ground.phase }, { on := 10, ground := Ground.phase }, { on := 11, ground := Ground.phase }, { on := 12, ground := Ground.phase }, { on := 13, ground := Ground.phase }], guard := none } : Oper)) rfl (fun K hK => ?_) ReadyT.nil)
        obtain ⟨d1_, d2_⟩ := Br.at hS0 hix
        go_simp
        refine hK.out _ _ (fun e => absurd rfl e) ?_
        clear hK K
        refine AnyT.done (by kernel_rfl) ?_ _
        go_wp2
        go_roundw
        case rel => exact ⟨k + 1, E'.set q (X ^^^ Y), by omega, by go_num, HFL.out, by rw [← HSA.out, HVX.out]; exact hBr.set hix (X ^^^ Y), bstep (hbr.setCell hgB _) (bdrew1 _)⟩
        case measure => simp [intOf]; omega
      · have hkb : ((k : Int) == 0) = false := by simpa using hk0
        have hkp : 1 ≤ k := by omega
        clear hk0
        go_upto_region 16 with (go_at_call 5; refine (hPickB ma mn mc (3 + (k : Int)) 2 _ (hk.later hbr) (by omega) (by omega) (by omega) (by omega)).mono ?_; rintro e w8 ⟨r8, rfl, hr80, hr81, rfl⟩)
        · skip
          have hS0 : Br w8.drew gB (hd ++ E') := hBr
          refine AnyT.begin (fun x => Br x gB (hd ++ E')) 15 (by kernel_rfl) ?_
          refine' AnyT.take (i := 0) (oi := ({ dst := some 98, op := Op.move (Operand.tmp 12), type := 22, pos := "laws.go:307", after := #[], guard := none } : Oper)) (ot := ({ dst := none, op := Op.store 5 (Operand.tmp 112) (Operand.tmp 111), type := 0, pos := "laws.go:307", after := #[{ on := 14, ground := Ground.data }, { on := 13, ground := Ground.data }, { on := 0, ground := Ground.phase }, { on := 1, ground := Ground.phase }, { on := 2, ground := Ground.phase }, { on := 3, ground := Ground.phase }, { on := 4, ground := Ground.phase }, { on := 5, ground := Ground.phase }, { on := 6, ground := Ground.phase }, { on := 7, ground := Ground.phase }, { on := 8, ground := Ground.phase }, { on := 9, ground := Ground.phase }, { on := 10, ground := Ground.phase }, { on := 11, ground := Ground.phase }, { on := 12, ground := Ground.phase }, { on := 13, ground := Ground.phase }], guard := none } : Oper)) (v := _) rfl (by decide) rfl (by kernel_rfl) (by kernel_rfl) (by kernel_rfl) (by kernel_rfl) (fun _ _ _ h => h) (Or.inl ⟨by rfl, fun x hSw => ?hyt2_0⟩) hS0 ?restt2_0
          case hyt2_0 =>
            skip
            go_simp
            try with_reducible rfl
          try simp only [Act.put, List.setIfInBounds_toArray, List.set_cons_zero, List.set_cons_succ]
          refine' AnyT.take (i := 1) (oi := ({ dst := some 99, op := Op.move (Operand.tmp 14), type := 3, pos := "laws.go:307", after := #[], guard := none } : Oper)) (ot := ({ dst := none, op := Op.store 5 (Operand.tmp 112) (Operand.tmp 111), type := 0, pos := "laws.go:307", after := #[{ on := 14, ground := Ground.data }, { on := 13, ground := Ground.data }, { on := 0, ground := Ground.phase }, { on := 1, ground := Ground.phase }, { on := 2, ground := Ground.phase }, { on := 3, ground := Ground.phase }, { on := 4, ground := Ground.phase }, { on := 5, ground := Ground.phase }, { on := 6, ground := Ground.phase }, { on := 7, ground := Ground.phase }, { on := 8, ground := Ground.phase }, { on := 9, ground := Ground.phase }, { on := 10, ground := Ground.phase }, { on := 11, ground := Ground.phase }, { on := 12, ground := Ground.phase }, { on := 13, ground := Ground.phase }], guard := none } : Oper)) (v := _) rfl (by decide) rfl (by kernel_rfl) (by kernel_rfl) (by kernel_rfl) (by kernel_rfl) (fun _ _ _ h => h) (Or.inl ⟨by rfl, fun x hSw => ?hyt2_1⟩) hS0 ?restt2_1
          case hyt2_1 =>
            skip
            go_simp
            try with_reducible rfl
          try simp only [Act.put, List.setIfInBounds_toArray, List.set_cons_zero, List.set_cons_succ]
          refine' AnyT.take (i := 2) (oi := ({ dst := some 100, op := Op.binOp BinOp.quo 3 (Operand.tmp 99) (Operand.const (Value.int IntKind.i64 8)) 3, type := 3, pos := "laws.go:307", after := #[{ on := 1, ground := Ground.data }], guard := none } : Oper)) (ot := ({ dst := none, op := Op.store 5 (Operand.tmp 112) (Operand.tmp 111), type := 0, pos := "laws.go:307", after := #[{ on := 14, ground := Ground.data }, { on := 13, ground := Ground.data }, { on := 0, ground := Ground.phase }, { on := 1, ground := Ground.phase }, { on := 2, ground := Ground.phase }, { on := 3, ground := Ground.phase }, { on := 4, ground := Ground.phase }, { on := 5, ground := Ground.phase }, { on := 6, ground := Ground.phase }, { on := 7, ground := Ground.phase }, { on := 8, ground := Ground.phase }, { on := 9, ground := Ground.phase }, { on := 10, ground := Ground.phase }, { on := 11, ground := Ground.phase }, { on := 12, ground := Ground.phase }, { on := 13, ground := Ground.phase }], guard := none } : Oper)) (v := _) rfl (by decide) rfl (by kernel_rfl) (by kernel_rfl) (by kernel_rfl) (by kernel_rfl) (fun _ _ _ h => h) (Or.inl ⟨by rfl, fun x hSw => ?hyt2_2⟩) hS0 ?restt2_2
          case hyt2_2 =>
            skip
            go_simp
            try with_reducible rfl
          try simp only [Act.put, List.setIfInBounds_toArray, List.set_cons_zero, List.set_cons_succ]
          refine' AnyT.take (i := 3) (oi := ({ dst := some 101, op := Op.binOp BinOp.add 3 (Operand.const (Value.int IntKind.i64 8)) (Operand.tmp 100) 3, type := 3, pos := "laws.go:307", after := #[{ on := 2, ground := Ground.data }], guard := none } : Oper)) (ot := ({ dst := none, op := Op.store 5 (Operand.tmp 112) (Operand.tmp 111), type := 0, pos := "laws.go:307", after := #[{ on := 14, ground := Ground.data }, { on := 13, ground := Ground.data }, { on := 0, ground := Ground.phase }, { on := 1, ground := Ground.phase }, { on := 2, ground := Ground.phase }, { on := 3, ground := Ground.phase }, { on := 4, ground := Ground.phase }, { on := 5, ground := Ground.phase }, { on := 6, ground := Ground.phase }, { on := 7, ground := Ground.phase }, { on := 8, ground := Ground.phase }, { on := 9, ground := Ground.phase }, { on := 10, ground := Ground.phase }, { on := 11, ground := Ground.phase }, { on := 12, ground := Ground.phase }, { on := 13, ground := Ground.phase }], guard := none } : Oper)) (v := _) rfl (by decide) rfl (by kernel_rfl) (by kernel_rfl) (by kernel_rfl) (by kernel_rfl) (fun _ _ _ h => h) (Or.inl ⟨by rfl, fun x hSw => ?hyt2_3⟩) hS0 ?restt2_3
          case hyt2_3 =>
            skip
            go_simp
            try with_reducible rfl
          try simp only [Act.put, List.setIfInBounds_toArray, List.set_cons_zero, List.set_cons_succ]
          refine' AnyT.take (i := 4) (oi := ({ dst := some 102, op := Op.move (Operand.tmp 12), type := 22, pos := "laws.go:307", after := #[], guard := none } : Oper)) (ot := ({ dst := none, op := Op.store 5 (Operand.tmp 112) (Operand.tmp 111), type := 0, pos := "laws.go:307", after := #[{ on := 14, ground := Ground.data }, { on := 13, ground := Ground.data }, { on := 0, ground := Ground.phase }, { on := 1, ground := Ground.phase }, { on := 2, ground := Ground.phase }, { on := 3, ground := Ground.phase }, { on := 4, ground := Ground.phase }, { on := 5, ground := Ground.phase }, { on := 6, ground := Ground.phase }, { on := 7, ground := Ground.phase }, { on := 8, ground := Ground.phase }, { on := 9, ground := Ground.phase }, { on := 10, ground := Ground.phase }, { on := 11, ground := Ground.phase }, { on := 12, ground := Ground.phase }, { on := 13, ground := Ground.phase }], guard := none } : Oper)) (v := _) rfl (by decide) rfl (by kernel_rfl) (by kernel_rfl) (by kernel_rfl) (by kernel_rfl) (fun _ _ _ h => h) (Or.inl ⟨by rfl, fun x hSw => ?hyt2_4⟩) hS0 ?restt2_4
          case hyt2_4 =>
            skip
            go_simp
            try with_reducible rfl
          try simp only [Act.put, List.setIfInBounds_toArray, List.set_cons_zero, List.set_cons_succ]
          refine' AnyT.take (i := 5) (oi := ({ dst := some 103, op := Op.move (Operand.tmp 14), type := 3, pos := "laws.go:307", after := #[], guard := none } : Oper)) (ot := ({ dst := none, op := Op.store 5 (Operand.tmp 112) (Operand.tmp 111), type := 0, pos := "laws.go:307", after := #[{ on := 14, ground := Ground.data }, { on := 13, ground := Ground.data }, { on := 0, ground := Ground.phase }, { on := 1, ground := Ground.phase }, { on := 2, ground := Ground.phase }, { on := 3, ground := Ground.phase }, { on := 4, ground := Ground.phase }, { on := 5, ground := Ground.phase }, { on := 6, ground := Ground.phase }, { on := 7, ground := Ground.phase }, { on := 8, ground := Ground.phase }, { on := 9, ground := Ground.phase }, { on := 10, ground := Ground.phase }, { on := 11, ground := Ground.phase }, { on := 12, ground := Ground.phase }, { on := 13, ground := Ground.phase }], guard := none } : Oper)) (v := _) rfl (by decide) rfl (by kernel_rfl) (by kernel_rfl) (by kernel_rfl) (by kernel_rfl) (fun _ _ _ h => h) (Or.inl ⟨by rfl, fun x hSw => ?hyt2_5⟩) hS0 ?restt2_5
          case hyt2_5 =>
            skip
            go_simp
            try with_reducible rfl
          try simp only [Act.put, List.setIfInBounds_toArray, List.set_cons_zero, List.set_cons_succ]
          refine' AnyT.take (i := 6) (oi := ({ dst := some 104, op := Op.binOp BinOp.quo 3 (Operand.tmp 103) (Operand.const (Value.int IntKind.i64 8)) 3, type := 3, pos := "laws.go:307", after := #[{ on := 5, ground := Ground.data }], guard := none } : Oper)) (ot := ({ dst := none, op := Op.store 5 (Operand.tmp 112) (Operand.tmp 111), type := 0, pos := "laws.go:307", after := #[{ on := 14, ground := Ground.data }, { on := 13, ground := Ground.data }, { on := 0, ground := Ground.phase }, { on := 1, ground := Ground.phase }, { on := 2, ground := Ground.phase }, { on := 3, ground := Ground.phase }, { on := 4, ground := Ground.phase }, { on := 5, ground := Ground.phase }, { on := 6, ground := Ground.phase }, { on := 7, ground := Ground.phase }, { on := 8, ground := Ground.phase }, { on := 9, ground := Ground.phase }, { on := 10, ground := Ground.phase }, { on := 11, ground := Ground.phase }, { on := 12, ground := Ground.phase }, { on := 13, ground := Ground.phase }], guard := none } : Oper)) (v := _) rfl (by decide) rfl (by kernel_rfl) (by kernel_rfl) (by kernel_rfl) (by kernel_rfl) (fun _ _ _ h => h) (Or.inl ⟨by rfl, fun x hSw => ?hyt2_6⟩) hS0 ?restt2_6
          case hyt2_6 =>
            skip
            go_simp
            try with_reducible rfl
          try simp only [Act.put, List.setIfInBounds_toArray, List.set_cons_zero, List.set_cons_succ]
          refine' AnyT.take (i := 7) (oi := ({ dst := some 105, op := Op.binOp BinOp.add 3 (Operand.const (Value.int IntKind.i64 8)) (Operand.tmp 104) 3, type := 3, pos := "laws.go:307", after := #[{ on := 6, ground := Ground.data }], guard := none } : Oper)) (ot := ({ dst := none, op := Op.store 5 (Operand.tmp 112) (Operand.tmp 111), type := 0, pos := "laws.go:307", after := #[{ on := 14, ground := Ground.data }, { on := 13, ground := Ground.data }, { on := 0, ground := Ground.phase }, { on := 1, ground := Ground.phase }, { on := 2, ground := Ground.phase }, { on := 3, ground := Ground.phase }, { on := 4, ground := Ground.phase }, { on := 5, ground := Ground.phase }, { on := 6, ground := Ground.phase }, { on := 7, ground := Ground.phase }, { on := 8, ground := Ground.phase }, { on := 9, ground := Ground.phase }, { on := 10, ground := Ground.phase }, { on := 11, ground := Ground.phase }, { on := 12, ground := Ground.phase }, { on := 13, ground := Ground.phase }], guard := none } : Oper)) (v := _) rfl (by decide) rfl (by kernel_rfl) (by kernel_rfl) (by kernel_rfl) (by kernel_rfl) (fun _ _ _ h => h) (Or.inl ⟨by rfl, fun x hSw => ?hyt2_7⟩) hS0 ?restt2_7
          case hyt2_7 =>
            skip
            go_simp
            try with_reducible rfl
          try simp only [Act.put, List.setIfInBounds_toArray, List.set_cons_zero, List.set_cons_succ]
          refine' AnyT.take (i := 8) (oi := ({ dst := some 106, op := Op.indexAddr 22 (Operand.tmp 102) (Operand.tmp 105), type := 0, pos := "laws.go:307", after := #[{ on := 4, ground := Ground.data }, { on := 7, ground := Ground.data }], guard := none } : Oper)) (ot := ({ dst := none, op := Op.store 5 (Operand.tmp 112) (Operand.tmp 111), type := 0, pos := "laws.go:307", after := #[{ on := 14, ground := Ground.data }, { on := 13, ground := Ground.data }, { on := 0, ground := Ground.phase }, { on := 1, ground := Ground.phase }, { on := 2, ground := Ground.phase }, { on := 3, ground := Ground.phase }, { on := 4, ground := Ground.phase }, { on := 5, ground := Ground.phase }, { on := 6, ground := Ground.phase }, { on := 7, ground := Ground.phase }, { on := 8, ground := Ground.phase }, { on := 9, ground := Ground.phase }, { on := 10, ground := Ground.phase }, { on := 11, ground := Ground.phase }, { on := 12, ground := Ground.phase }, { on := 13, ground := Ground.phase }], guard := none } : Oper)) (v := _) rfl (by decide) rfl (by kernel_rfl) (by kernel_rfl) (by kernel_rfl) (by kernel_rfl) (fun _ _ _ h => h) (Or.inl ⟨by rfl, fun x hSw => ?hyt2_8⟩) hS0 ?restt2_8
          case hyt2_8 =>
            skip
            go_simp
            try with_reducible rfl
          try simp only [Act.put, List.setIfInBounds_toArray, List.set_cons_zero, List.set_cons_succ]
          refine' AnyT.take (i := 9) (oi := ({ dst := some 107, op := Op.load 5 (Operand.tmp 106), type := 5, pos := "laws.go:307", after := #[{ on := 8, ground := Ground.data }], guard := none } : Oper)) (ot := ({ dst := none, op := Op.store 5 (Operand.tmp 112) (Operand.tmp 111), type := 0, pos := "laws.go:307", after := #[{ on := 14, ground := Ground.data }, { on := 13, ground := Ground.data }, { on := 0, ground := Ground.phase }, { on := 1, ground := Ground.phase }, { on := 2, ground := Ground.phase }, { on := 3, ground := Ground.phase }, { on := 4, ground := Ground.phase }, { on := 5, ground := Ground.phase }, { on := 6, ground := Ground.phase }, { on := 7, ground := Ground.phase }, { on := 8, ground := Ground.phase }, { on := 9, ground := Ground.phase }, { on := 10, ground := Ground.phase }, { on := 11, ground := Ground.phase }, { on := 12, ground := Ground.phase }, { on := 13, ground := Ground.phase }], guard := none } : Oper)) (v := _) rfl (by decide) rfl (by kernel_rfl) (by kernel_rfl) (by kernel_rfl) (by kernel_rfl) (fun _ _ _ h => h) (Or.inl ⟨by rfl, fun x hSw => ?hyt2_9⟩) hS0 ?restt2_9
          case hyt2_9 =>
            obtain ⟨d0_, -⟩ := Br.at hSw hix; rw [hgx] at d0_
            go_simp
            try with_reducible rfl
          try simp only [Act.put, List.setIfInBounds_toArray, List.set_cons_zero, List.set_cons_succ]
          refine' AnyT.take (i := 10) (oi := ({ dst := some 108, op := Op.move (Operand.tmp 14), type := 3, pos := "laws.go:307", after := #[], guard := none } : Oper)) (ot := ({ dst := none, op := Op.store 5 (Operand.tmp 112) (Operand.tmp 111), type := 0, pos := "laws.go:307", after := #[{ on := 14, ground := Ground.data }, { on := 13, ground := Ground.data }, { on := 0, ground := Ground.phase }, { on := 1, ground := Ground.phase }, { on := 2, ground := Ground.phase }, { on := 3, ground := Ground.phase }, { on := 4, ground := Ground.phase }, { on := 5, ground := Ground.phase }, { on := 6, ground := Ground.phase }, { on := 7, ground := Ground.phase }, { on := 8, ground := Ground.phase }, { on := 9, ground := Ground.phase }, { on := 10, ground := Ground.phase }, { on := 11, ground := Ground.phase }, { on := 12, ground := Ground.phase }, { on := 13, ground := Ground.phase }], guard := none } : Oper)) (v := _) rfl (by decide) rfl (by kernel_rfl) (by kernel_rfl) (by kernel_rfl) (by kernel_rfl) (fun _ _ _ h => h) (Or.inl ⟨by rfl, fun x hSw => ?hyt2_10⟩) hS0 ?restt2_10
          case hyt2_10 =>
            skip
            go_simp
            try with_reducible rfl
          try simp only [Act.put, List.setIfInBounds_toArray, List.set_cons_zero, List.set_cons_succ]
          refine' AnyT.take (i := 11) (oi := ({ dst := some 109, op := Op.binOp BinOp.rem 3 (Operand.tmp 108) (Operand.const (Value.int IntKind.i64 8)) 3, type := 3, pos := "laws.go:307", after := #[{ on := 10, ground := Ground.data }], guard := none } : Oper)) (ot := ({ dst := none, op := Op.store 5 (Operand.tmp 112) (Operand.tmp 111), type := 0, pos := "laws.go:307", after := #[{ on := 14, ground := Ground.data }, { on := 13, ground := Ground.data }, { on := 0, ground := Ground.phase }, { on := 1, ground := Ground.phase }, { on := 2, ground := Ground.phase }, { on := 3, ground := Ground.phase }, { on := 4, ground := Ground.phase }, { on := 5, ground := Ground.phase }, { on := 6, ground := Ground.phase }, { on := 7, ground := Ground.phase }, { on := 8, ground := Ground.phase }, { on := 9, ground := Ground.phase }, { on := 10, ground := Ground.phase }, { on := 11, ground := Ground.phase }, { on := 12, ground := Ground.phase }, { on := 13, ground := Ground.phase }], guard := none } : Oper)) (v := _) rfl (by decide) rfl (by kernel_rfl) (by kernel_rfl) (by kernel_rfl) (by kernel_rfl) (fun _ _ _ h => h) (Or.inl ⟨by rfl, fun x hSw => ?hyt2_11⟩) hS0 ?restt2_11
          case hyt2_11 =>
            skip
            go_simp
            try with_reducible rfl
          try simp only [Act.put, List.setIfInBounds_toArray, List.set_cons_zero, List.set_cons_succ]
          refine' AnyT.take (i := 12) (oi := ({ dst := some 110, op := Op.binOp BinOp.shl 5 (Operand.const (Value.int IntKind.u8 1)) (Operand.tmp 109) 3, type := 5, pos := "laws.go:307", after := #[{ on := 11, ground := Ground.data }], guard := none } : Oper)) (ot := ({ dst := none, op := Op.store 5 (Operand.tmp 112) (Operand.tmp 111), type := 0, pos := "laws.go:307", after := #[{ on := 14, ground := Ground.data }, { on := 13, ground := Ground.data }, { on := 0, ground := Ground.phase }, { on := 1, ground := Ground.phase }, { on := 2, ground := Ground.phase }, { on := 3, ground := Ground.phase }, { on := 4, ground := Ground.phase }, { on := 5, ground := Ground.phase }, { on := 6, ground := Ground.phase }, { on := 7, ground := Ground.phase }, { on := 8, ground := Ground.phase }, { on := 9, ground := Ground.phase }, { on := 10, ground := Ground.phase }, { on := 11, ground := Ground.phase }, { on := 12, ground := Ground.phase }, { on := 13, ground := Ground.phase }], guard := none } : Oper)) (v := _) rfl (by decide) rfl (by kernel_rfl) (by kernel_rfl) (by kernel_rfl) (by kernel_rfl) (fun _ _ _ h => h) (Or.inl ⟨by rfl, fun x hSw => ?hyt2_12⟩) hS0 ?restt2_12
          case hyt2_12 =>
            skip
            go_simp
            try with_reducible rfl
          try simp only [Act.put, List.setIfInBounds_toArray, List.set_cons_zero, List.set_cons_succ]
          refine' AnyT.take (i := 13) (oi := ({ dst := some 111, op := Op.binOp BinOp.xor 5 (Operand.tmp 107) (Operand.tmp 110) 5, type := 5, pos := "laws.go:307", after := #[{ on := 9, ground := Ground.data }, { on := 12, ground := Ground.data }], guard := none } : Oper)) (ot := ({ dst := none, op := Op.store 5 (Operand.tmp 112) (Operand.tmp 111), type := 0, pos := "laws.go:307", after := #[{ on := 14, ground := Ground.data }, { on := 13, ground := Ground.data }, { on := 0, ground := Ground.phase }, { on := 1, ground := Ground.phase }, { on := 2, ground := Ground.phase }, { on := 3, ground := Ground.phase }, { on := 4, ground := Ground.phase }, { on := 5, ground := Ground.phase }, { on := 6, ground := Ground.phase }, { on := 7, ground := Ground.phase }, { on := 8, ground := Ground.phase }, { on := 9, ground := Ground.phase }, { on := 10, ground := Ground.phase }, { on := 11, ground := Ground.phase }, { on := 12, ground := Ground.phase }, { on := 13, ground := Ground.phase }], guard := none } : Oper)) (v := _) rfl (by decide) rfl (by kernel_rfl) (by kernel_rfl) (by kernel_rfl) (by kernel_rfl) (fun _ _ _ h => h) (Or.inl ⟨by rfl, fun x hSw => ?hyt2_13⟩) hS0 ?restt2_13
          case hyt2_13 =>
            skip
            go_simp
            try with_reducible rfl
          try simp only [Act.put, List.setIfInBounds_toArray, List.set_cons_zero, List.set_cons_succ]
          refine' AnyT.take (i := 14) (oi := ({ dst := some 112, op := Op.indexAddr 22 (Operand.tmp 98) (Operand.tmp 101), type := 0, pos := "laws.go:307", after := #[{ on := 0, ground := Ground.data }, { on := 3, ground := Ground.data }, { on := 0, ground := Ground.phase }, { on := 1, ground := Ground.phase }, { on := 2, ground := Ground.phase }, { on := 3, ground := Ground.phase }, { on := 4, ground := Ground.phase }, { on := 5, ground := Ground.phase }, { on := 6, ground := Ground.phase }, { on := 7, ground := Ground.phase }, { on := 8, ground := Ground.phase }, { on := 9, ground := Ground.phase }, { on := 10, ground := Ground.phase }, { on := 11, ground := Ground.phase }, { on := 12, ground := Ground.phase }, { on := 13, ground := Ground.phase }], guard := none } : Oper)) (ot := ({ dst := none, op := Op.store 5 (Operand.tmp 112) (Operand.tmp 111), type := 0, pos := "laws.go:307", after := #[{ on := 14, ground := Ground.data }, { on := 13, ground := Ground.data }, { on := 0, ground := Ground.phase }, { on := 1, ground := Ground.phase }, { on := 2, ground := Ground.phase }, { on := 3, ground := Ground.phase }, { on := 4, ground := Ground.phase }, { on := 5, ground := Ground.phase }, { on := 6, ground := Ground.phase }, { on := 7, ground := Ground.phase }, { on := 8, ground := Ground.phase }, { on := 9, ground := Ground.phase }, { on := 10, ground := Ground.phase }, { on := 11, ground := Ground.phase }, { on := 12, ground := Ground.phase }, { on := 13, ground := Ground.phase }], guard := none } : Oper)) (v := _) rfl (by decide) rfl (by kernel_rfl) (by kernel_rfl) (by kernel_rfl) (by kernel_rfl) (fun _ _ _ h => h) (Or.inl ⟨by rfl, fun x hSw => ?hyt2_14⟩) hS0 ?restt2_14
          case hyt2_14 =>
            skip
            go_simp
            try with_reducible rfl
          try simp only [Act.put, List.setIfInBounds_toArray, List.set_cons_zero, List.set_cons_succ]
          refine AnyT.ready (rs := [15]) (by kernel_rfl) (by simp) ?_
          refine (ReadyT.cons (o := ({ dst := none, op := Op.store 5 (Operand.tmp 112) (Operand.tmp 111), type := 0, pos := "laws.go:307", after := #[{ on := 14, ground := Ground.data }, { on := 13, ground := Ground.data }, { on := 0, ground := Ground.phase }, { on := 1, ground := Ground.phase }, { on := 2, ground := Ground.phase }, { on := 3, ground := Ground.phase }, { on := 4, ground := Ground.phase }, { on := 5, ground := Ground.phase }, { on := 6, ground := Ground.phase }, { on := 7, ground := Ground.phase }, { on := 8, ground := Ground.phase }, { on := 9, ground := Ground.phase }, { on := 10, ground := Ground.phase }, { on := 11, ground := Ground.phase }, { on := 12, ground := Ground.phase }, { on := 13, ground := Ground.phase }], guard := none } : Oper)) rfl (fun K hK => ?_) ReadyT.nil)
          obtain ⟨d1_, d2_⟩ := Br.at hS0 hix
          go_simp
          refine hK.out _ _ (fun e => absurd rfl e) ?_
          clear hK K
          refine AnyT.done (by kernel_rfl) ?_ _
          go_wp2
          go_roundw
          case rel => exact ⟨k + 1, E'.set q (X ^^^ Y), by omega, by go_num, HFL.out, by rw [← HSA.out, HVX.out]; exact hBr.set hix (X ^^^ Y), bstep (hbr.setCell hgB _) (bdrew1 _)⟩
          case measure => simp [intOf]; omega
        · go_wp2
          go_roundw
          case rel => exact ⟨k + 1, E', by omega, by go_num, HBU.out.skip hkp, hBr, hbr⟩
          case measure => simp [intOf]; omega
    · have hex : 1 ≤ k := by
        rcases Nat.eq_zero_or_pos k with e | e
        · exfalso
          apply hgo
          omega
        · exact e
      have hcrc := HBU.out.crc hex hk32 (by omega)
      have hcv := hBr.conv (cap := capB)
      have hl8 : (hd ++ E').length = 8 + E.size := by rw [List.length_append, hdl, hlE, HEL.out]
      rw [hl8] at hcv
      have hfst := fst_burst hlE (by rw [HEL.out]; exact hE1) (by rw [HEL.out]; exact hE2) hcrc
      rw [HHD.out] at hfst
      obtain ⟨s', hs'⟩ : ∃ s', bs (hd ++ E') = s' := ⟨_, rfl⟩
      have hs2 : s'.size = 8 + E.size := by rw [← hs', bs_size]; exact hl8
      rw [hs'] at hfst
      have hcv' : (convert 22 9 (.slice (some ⟨gB, 0, none⟩) (8 + E.size) capB)).run Try.prog wr = .ok (.string s') wr := by rw [← hs']; exact hcv
      have hsc := iScan s' (by omega) [] 0 rfl (by rw [rst_zero, hfst]; rfl) (by omega) (by simp) wr
      clear hcv hfst hs2 hs' hl8 hcrc
      by_cases hk1 : k < 32
      · have hk1' : (k : Int) < 32 := by omega
        have hk2' : ¬ (f : Int) + (k : Int) < 8 * (E.size : Int) := fun h => hgo ⟨hk1, by omega⟩
        have ew : IntKind.i64.wrap ((f : Int) + (k : Int)) = f + k := by rw [IntKind.wrap_i64]; omega
        clear hgo
        go_wp2_with (go_at_call 7; refine hsc.mono ?_; rintro e w9 ⟨g9, cap9, rfl, -, hb9⟩)
        go_ret
        exact ⟨rfl, bstep hbr hb9⟩
      · have hk1' : ¬ (k : Int) < 32 := by omega
        clear hgo
        go_wp2_with (go_at_call 7; refine hsc.mono ?_; rintro e w9 ⟨g9, cap9, rfl, -, hb9⟩)
        go_ret
        exact ⟨rfl, bstep hbr hb9⟩
end Go.Proofs.Ytlilmbeehmjpkaa
