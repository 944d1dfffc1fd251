/-
  The program's keywords and names.
-/
import Derived.Test.YtfodndnkhgijmaaDoorFl
namespace Go.Proofs.YtfodndnkhgijmaaDoor
open Go.RowKit Go.Maps Go.WideMaps
theorem lawS : Keyed Tryd.prog 9 := string_keyed Tryd.underlying9
theorem zeroU (w : World) : (zeroValue 110).run Tryd.prog w = .ok (.agg #[]) w := by kernel_rfl
def litS (s : ByteArray) : Lit := .string s.data.toList
/-- The set of the strings of L lies in block b. -/
def KwAt (w : World) (b : Nat) : Prop := w.ownsMap Tryd.prog 9 (unitElem (H := Unit)) b 17 (setOf (.agg []) (kws.map litS))
theorem KwAt.later {w w' : World} {b : Nat} (h : KwAt w b) (hb : Below w.heap.size w w') : KwAt w' b := by
  have hl := h.lt
  obtain ⟨es, clock, h1, F, hs, hD⟩ := h
  exact ⟨es, clock, (hb.block _ hl).trans h1, F, hs, hD⟩
theorem has_kws (L : List ByteArray) (s : ByteArray) : Maps.has (setOf (H := Unit) (.agg []) (L.map litS)) (litS s) = isIn s L := by
  rw [has_setOf _ _ _ (by intro x hx; obtain ⟨y, _, rfl⟩ := List.mem_map.1 hx; exact trivial)]
  unfold isIn
  rw [List.any_map]
  congr 1
  funext x
  show (x.data.toList == s.data.toList) = _
  rw [← eqS, ByteArray.toList_eq, ByteArray.toList_eq]
theorem fieldsKw (s : ByteArray) (w : World) (hs : s.size < 4294967281) (hascii : (s.data.toList.all fun b => decide (b.toNat < 128)) = true) (hf : Lib.fields s.data.toList = kws.map fun x => x.data.toList) (hT : SpT w) : Calls Tryd.prog 71 #[.string s] w fun e w' =>
      e = .returned (.slice (some ⟨w.heap.size, 0, none⟩) 17 17) ∧ w' = w.alloc (.cells (kws.map Value.string).toArray 9) :=
  (fieldsAt s w hs (fun j b hb => by simpa using List.all_eq_true.1 hascii b (List.mem_of_getElem? hb)) hT).mono fun e w' ⟨he, hw⟩ => by
    rw [hf] at he hw
    exact ⟨by rw [he, List.length_map]; rfl, by rw [hw, List.map_map]; rfl⟩
theorem kws_len : kws.length = 17 := rfl
theorem kws_short (k : Nat) (hk : k < kws.length) : kws[k].size ≤ 10 := by
  have h : kws.all (fun x => decide (x.size ≤ 10)) = true := by kernel_rfl
  simpa using List.all_eq_true.1 h kws[k] (List.getElem_mem _)
set_option maxRecDepth 20000 in
set_option maxHeartbeats 4000000 in
theorem iKeywords (w : World) (hT : SpT w) : Calls Tryd.prog 22 #[] w fun e w' => ∃ b, e = .returned (.map (some b)) ∧ KwAt w' b ∧ Below w.heap.size w w' := by
  have hmm := @run_makeMap Tryd.prog
  go_enter Tryd.func22, Tryd.ntmps22
  go_wp2_with (go_at_call 71; refine (fieldsKw _ _ (by decide) (by kernel_rfl) (by kernel_rfl) (hT.later (bal _ _))).mono ?_; rintro e w1 ⟨rfl, rfl⟩)
  have e17 : kws.length = 17 := rfl
  go_loopw [3, 7] (fun _ i wr => ∃ k : Nat, k ≤ 17 ∧ i = .int .i64 k ∧ wr.ownsMap Tryd.prog 9 (unitElem (H := Unit)) w.heap.size k (setOf (.agg []) ((kws.take k).map litS)) ∧ Below w.heap.size w wr ∧ SL wr (some ⟨w.heap.size + 1, 0, none⟩) kws) (fun _ i _ => 17 - (intOf i).toNat)
  case atStart =>
    refine ⟨0, by omega, rfl, ?_, bstep (bal _ _) (bal _ _), ?_⟩
    · exact (World.ownsMap_made w Tryd.prog 9 (unitElem (H := Unit))).alloc _
    · have h := sl_new (w.alloc (.map #[] 0)) kws 9
      simpa using h
  case round =>
    obtain ⟨k, hk, rfl, hown, hb, hS⟩ := hrel
    by_cases hlt : k < 17
    · obtain ⟨b, off, e, hc⟩ := hS k (by omega)
      obtain ⟨rfl, rfl⟩ : w.heap.size + 1 = b ∧ 0 = off := by simpa using e
      have hsh := kws_short k (by omega)
      rw [Nat.zero_add] at hc
      have hkey : keyOf Tryd.prog 9 (.string kws[k]) = some (litS kws[k]) := keyOf_string_mk Tryd.underlying9 (by unfold maxLen; omega)
      go_wp2_with (first | (at_mapUpdate; refine wpList_mapUpdate_own _ rfl _ _ _ 59 rfl 9 110 lawS Tryd.underlying59 (unitElem (H := Unit)) w.heap.size k _ rfl hown (by unfold maxLen; omega) _ _ _ rfl rfl hkey _ [] unitElem_mk ?_; intro w1 hown1 hgrow1) | go_in)
      go_roundw
      case rel =>
        refine ⟨k + 1, by omega, by go_num, ?_, hb.grown hgrow1 hb.size (fun j hj => by cases hj; exact Nat.le_refl _), fun j hj => ?_⟩
        · rw [List.take_succ_eq_append_getElem (by omega), List.map_append, List.map_cons, List.map_nil, setOf_snoc]
          exact hown1
        · obtain ⟨b', off', e', hc'⟩ := hS j hj
          obtain ⟨rfl, rfl⟩ : w.heap.size + 1 = b' ∧ 0 = off' := by simpa using e'
          refine ⟨_, _, rfl, ?_⟩
          exact hgrow1.cell hc' (by simp)
      case measure => simp [intOf]; omega
    · obtain rfl : k = 17 := by omega
      go_wp2
      go_ret
      exact ⟨_, rfl, hown, hb⟩
set_option maxRecDepth 20000 in
set_option maxHeartbeats 4000000 in
theorem iName (b : Nat) (s : ByteArray) (w : World) (hK : KwAt w b) (hs : s.size ≤ 1048576) : Calls Tryd.prog 40 #[.map (some b), .string s] w fun e w' => e = .returned (.bool (okName s)) ∧ Below w.heap.size w w' := by
  have hkey : keyOf Tryd.prog 9 (.string s) = some (litS s) := keyOf_string_mk Tryd.underlying9 (by unfold maxLen; omega)
  have hh := has_kws kws s
  go_enter Tryd.func40, Tryd.ntmps40
  go_wp2_with (first | (at_lookup; refine wpList_lookup_own_unit _ rfl _ _ 59 rfl 9 110 lawS Tryd.underlying59 (zeroU _) b 17 _ rfl hK _ _ rfl hkey ?_; rw [hh]) | (go_at_call 94; refine (iWord s _ hs).mono ?_; rintro e w1 ⟨rfl, rfl⟩; rcases ho : okWord s) | go_in)
  all_goals
    go_ret
    exact ⟨retB (by simp [okName, ho]), bal _ _⟩
end Go.Proofs.YtfodndnkhgijmaaDoor
