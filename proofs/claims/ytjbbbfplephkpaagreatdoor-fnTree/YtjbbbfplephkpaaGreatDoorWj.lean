/-
  The model's Sha256.
-/
import Derived.Test.YtjbbbfplephkpaaGreatDoorWi
namespace Go.Proofs.YtjbbbfplephkpaaGreatDoor
open Go.RowKit
set_option maxRecDepth 20000 in
theorem num8_any (v : Nat) (w : World) (hv : v < 4294967296) :
    Calls Tryz.prog 43 #[.int .i64 8, .int .i64 v] w fun e w' => e = .returned (.string ⟨(num 8 v).toArray⟩) ∧ Below w.heap.size w w' := num_any 8 v w (by omega) hv
set_option maxRecDepth 20000 in
theorem num4_any (v : Nat) (w : World) (hv : v < 4294967296) :
    Calls Tryz.prog 43 #[.int .i64 4, .int .i64 v] w fun e w' => e = .returned (.string ⟨(num 4 v).toArray⟩) ∧ Below w.heap.size w w' := num_any 4 v w (by omega) hv
def strSize : Value → Nat | .string y => y.size | _ => 0
theorem size_toList (y : ByteArray) (l : List UInt8) (h : y.data.toList = l) : y.size = l.length := by
  rw [← h]; simp
theorem iv_row (w : World) : RowIs (w.alloc (.cells #[.int .u32 1779033703, .int .u32 3144134277, .int .u32 1013904242, .int .u32 2773480762, .int .u32 1359893119, .int .u32 2600822924, .int .u32 528734635, .int .u32 1541459225] 87)) w.heap.size iv := by
  intro i hi
  refine (cell_of_row _ _ i _ 87 (0, 0) (heap_alloc_new w _)).trans ?_
  match i, hi with
  | 0, _ => rfl
  | 1, _ => rfl
  | 2, _ => rfl
  | 3, _ => rfl
  | 4, _ => rfl
  | 5, _ => rfl
  | 6, _ => rfl
  | 7, _ => rfl
set_option maxHeartbeats 2000000 in
set_option maxRecDepth 20000 in
theorem specSha_any (x : ByteArray) (w : World) (hx : x.size ≤ 8388608) :
    Calls Tryz.prog 37 #[.string x] w fun e w' => e = .returned (.string ⟨(shaL x.data.toList).toArray⟩) ∧ Below w.heap.size w w' := by
  obtain ⟨Z, hZ⟩ : ∃ Z, Z = (119 - x.size % 64) % 64 := ⟨_, rfl⟩
  have HZ : Hid (Z = (119 - x.size % 64) % 64) := hZ
  have HX : Hid (x.data.toList.length = x.size) := by show _ = _; simp
  clear hZ
  go_enter Tryz.func37, Tryz.ntmps37
  go_wp2
  go_loop [3] (fun v => ∃ (k : Nat) (y : ByteArray), k ≤ Z ∧ v = .string y ∧ y.data.toList = x.data.toList ++ [128] ++ List.replicate k 0) (fun v => x.size + 66 - strSize v)
  case atStart => exact ⟨0, _, Nat.zero_le _, rfl, by simp⟩
  case round =>
    obtain ⟨k, y, hk, rfl, hy⟩ := hrel
    have hys : y.size = x.size + 1 + k := by rw [size_toList y _ hy]; simp; omega
    have HY : Hid (y.data.toList = x.data.toList ++ [128] ++ List.replicate k 0) := hy
    clear hy
    have hZ63 : Z < 64 := by have := HZ.out; omega
    by_cases hlt : k < Z
    · have ht : ¬ ((x.size : Int) + 1 + (k : Int)) % 64 = 56 := by have := HZ.out; omega
      go_wp2
      go_round
      case rel =>
        refine ⟨k + 1, _, by omega, rfl, ?_⟩
        simp [HY.out, List.replicate_succ']
      case measure =>
        have e1 : (⟨#[0]⟩ : ByteArray).size = 1 := rfl
        simp [strSize, e1]; omega
    · obtain rfl : k = Z := by omega
      have ht : ((x.size : Int) + 1 + (k : Int)) % 64 = 56 := by have := HZ.out; omega
      obtain ⟨v, hv⟩ : ∃ v : Nat, 8 * (x.size : Int) = (v : Int) := ⟨x.size * 8, by omega⟩
      have HV : Hid (v = x.size * 8) := by show _ = _; omega
      have hvl : v < 4294967296 := by omega
      obtain ⟨T, hT⟩ : ∃ T, y ++ ⟨(num 8 v).toArray⟩ = T := ⟨_, rfl⟩
      have HT : Hid (T.data.toList = msgL x.data.toList) := by
        show _ = _
        rw [← hT]
        unfold msgL
        rw [HX.out, ← HZ.out, ← HV.out, ← HY.out]
        simp
      have HTS : Hid (T.size = x.size + 1 + k + 8) := by
        show _ = _
        rw [← hT, ByteArray.size_append, hys]
        show _ + (num 8 v).toArray.size = _
        rw [List.size_toArray, num_len]
      have HTL : Hid (T.size = 64 * (T.size / 64)) := by
        show _ = _
        have h1 := HTS.out
        have h2 := HZ.out
        omega
      have hl8 : (num 8 v).length = 8 := num_len 8 v
      go_wp2_with (go_at_call 43; refine (num8_any v _ hvl).mono ?_; rintro e w1 ⟨rfl, hb1⟩)
      clear hT ht hl8
      obtain ⟨W, hW⟩ : ∃ W, W = w1.alloc (.cells #[.int .u32 1779033703, .int .u32 3144134277, .int .u32 1013904242, .int .u32 2773480762, .int .u32 1359893119, .int .u32 2600822924, .int .u32 528734635, .int .u32 1541459225] 87) := ⟨_, rfl⟩
      rw [← hW]
      have hrow : RowIs W w1.heap.size iv := by rw [hW]; exact iv_row w1
      have hb : Below w.heap.size w W := by rw [hW]; exact hb1.alloc hb1.size _
      clear hW hb1
      have htz : T.size ≤ 16777216 := by have := HTS.out; have := HZ.out; omega
      go_loopw [4, 5] (fun h a wr => ∃ n g c : Nat, n ≤ T.size / 64 ∧ a = .int .i64 ((64 * n : Nat) : Int) ∧ h = .slice (some ⟨g, 0, none⟩) 8 c ∧ RowIs wr g (comps iv T.data.toList n) ∧ Below w.heap.size w wr) (fun _ a _ => T.size - (intOf a).toNat)
      case atStart => exact ⟨0, w1.heap.size, 8, by omega, rfl, rfl, hrow, hb⟩
      case round =>
        clear hrow hb
        obtain ⟨n, g, c, hn, rfl, rfl, hrow, hb⟩ := hrel
        by_cases hlt2 : 64 * n < T.size
        · have hn1 : 64 * n + 64 ≤ T.size := by have := HTL.out; omega
          have hst := comps_ok iv T.data.toList n iv_ok
          have HC : Hid (comps iv T.data.toList (n + 1) = comp (comps iv T.data.toList n) ⟨((T.data.toList.drop (64 * n)).take 64).toArray⟩) := rfl
          obtain ⟨blk, hblk⟩ : ∃ blk, T.extract (64 * n) (64 * n + 64) = blk := ⟨_, rfl⟩
          have HBS : Hid (blk.size = 64) := by show _ = _; rw [← hblk]; simp; omega
          have HBL : Hid (blk = ⟨((T.data.toList.drop (64 * n)).take 64).toArray⟩) := by
            show _ = _
            apply ba_ext
            rw [← hblk]
            simp [List.extract_eq_take_drop]
          obtain ⟨m, hm⟩ : ∃ m, 64 * n = m := ⟨_, rfl⟩
          rw [hm] at hlt2 hn1 hblk ⊢
          have HM : Hid (64 * n = m) := hm
          clear hm
          have s1 : (0 : Int) ≤ (m : Int) := by omega
          have s2 : (m : Int) ≤ (m : Int) + 64 := by omega
          have s3 : (m : Int) + 64 ≤ (T.size : Int) := by omega
          have s4 : ((m : Int) + 64).toNat = m + 64 := by omega
          go_wp2_with (go_at_call 57; refine (specBlock_any _ blk _ g c hst HBS.out hrow).mono ?_; rintro e w2 ⟨g2, c2, rfl, hown2, hb2⟩)
          go_roundw
          case rel =>
            refine ⟨n + 1, g2, c2, by have := HM.out; omega, by have := HM.out; go_num, rfl, ?_, hb.trans (hb2.mono hb.size)⟩
            rw [HC.out, ← HBL.out]
            exact row_of_owns hown2
          case measure => simp [intOf]; omega
        · have hnn : n = T.size / 64 := by omega
          have hst := comps_ok iv T.data.toList n iv_ok
          have HSH : Hid (shaL x.data.toList = (comps iv T.data.toList n).list.flatMap (num 4)) := by
            show _ = _
            rw [← outL_eq]
            unfold shaL
            rw [← HT.out, hnn, size_toList T _ rfl]
          clear hnn
          obtain ⟨st, est⟩ : ∃ st, comps iv T.data.toList n = st := ⟨_, rfl⟩
          rw [est] at hst HSH hrow
          clear est
          obtain ⟨wo, rfl⟩ : ∃ wo : World, wo = wr := ⟨_, rfl⟩
          have HROW : Hid (RowIs wo g st) := hrow
          have hgl : g < wo.heap.size := hrow.lt
          have HB : Hid (Below w.heap.size w wo) := hb
          clear hrow hb
          go_wp2
          go_loopw [6, 39] (fun v i wq => ∃ (k : Nat) (y : ByteArray), k ≤ 8 ∧ i = .int .i64 k ∧ v = .string y ∧ y.data.toList = (st.list.take k).flatMap (num 4) ∧ Below wo.heap.size wo wq) (fun _ i _ => 8 - (intOf i).toNat)
          case atStart => exact ⟨0, _, by omega, rfl, rfl, by simp, Below.refl _ _⟩
          case round =>
            obtain ⟨k, y, hk, rfl, rfl, hy, hb⟩ := hrel
            have HY : Hid (y.data.toList = (st.list.take k).flatMap (num 4)) := hy
            have hys : y.size ≤ 32 := by
              rw [size_toList y _ hy]
              have : ∀ l : List Nat, (l.flatMap (num 4)).length = 4 * l.length := by
                intro l
                induction l with
                | nil => rfl
                | cons a l ih => rw [List.flatMap_cons, List.length_append, ih, num_len, List.length_cons]; omega
              rw [this, List.length_take]; omega
            clear hy
            by_cases hlt3 : k < 8
            · have hc : wr.cell? ⟨g, k, none⟩ = some (.int .u32 (st.list.getD k 0 : Nat)) := (hb.cell (p := ⟨g, k, none⟩) hgl).trans (HROW.out k hlt3)
              have hxl := list_lt st k hst
              have HF : Hid ((st.list.take (k + 1)).flatMap (num 4) = (st.list.take k).flatMap (num 4) ++ num 4 (st.list.getD k 0)) := by
                show _ = _
                have hl : k < st.list.length := by simpa [St.list] using hlt3
                rw [List.take_succ_eq_append_getElem hl, List.flatMap_append]
                simp [List.getD_eq_getElem?_getD, hl]
              obtain ⟨X, eX⟩ : ∃ X, st.list.getD k 0 = X := ⟨_, rfl⟩
              rw [eX] at hc hxl HF
              clear eX
              have hl4 : (num 4 X).length = 4 := num_len 4 X
              go_wp2_with (go_at_call 43; refine (num4_any X _ hxl).mono ?_; rintro e w4 ⟨rfl, hb4⟩)
              go_roundw
              case rel =>
                have R : ∃ (k' : Nat) (y' : ByteArray), k' ≤ 8 ∧ Value.int .i64 ((k : Int) + 1) = .int .i64 k' ∧ Value.string (y ++ ⟨(num 4 X).toArray⟩) = .string y' ∧ y'.data.toList = (st.list.take k').flatMap (num 4) ∧ Below wo.heap.size wo w4 := by
                  refine ⟨k + 1, _, by omega, by go_num, rfl, ?_, hb.trans (hb4.mono hb.size)⟩
                  rw [HF.out, ← HY.out]
                  simp
                exact ⟨_, _, _, _, _, _, _, _, _, _, _, _, R, rfl⟩
              case measure => simp [intOf]; omega
            · obtain rfl : k = 8 := by omega
              have HBF : Hid (Below w.heap.size w wr) := HB.out.trans (hb.mono HB.out.size)
              clear hb
              go_wp2
              go_ret
              refine ⟨ret_str ?_, HBF.out⟩
              apply ba_ext
              rw [HY.out, HSH.out, List.take_of_length_le (by simp [St.list])]
end Go.Proofs.YtjbbbfplephkpaaGreatDoor
