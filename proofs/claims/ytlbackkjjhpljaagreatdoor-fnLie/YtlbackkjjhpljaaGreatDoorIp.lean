/-
  A path's claim: the program's way, a function value that calls itself.
-/
import Derived.Test.YtlbackkjjhpljaaGreatDoorCk
import Derived.Test.YtlbackkjjhpljaaGreatDoorKd
import Derived.Test.YtlbackkjjhpljaaGreatDoorIa
import Derived.Deep.RegionHeld3
namespace Go.Proofs.YtlbackkjjhpljaaGreatDoor
open Go.RowKit
set_option maxRecDepth 20000 in
/-- cutLast of a list of q + 1. -/
theorem cutLast_any (a : Option Addr) (q c : Nat) (S : Nat → ByteArray) (w : World) (h : Sl w a (q + 1) S) (hc : q + 1 ≤ c) :
    Calls Tryz.prog 58 #[.slice a (q + 1 : Nat) c] w fun e w' => e = .returned (.tuple #[.slice a q c, .string (S q)]) ∧ w' = w.drew := by
  have hn := h.1
  obtain ⟨b, off, rfl, hc1⟩ := h.at q (by omega)
  have i0 : (0 : Int) ≤ (q : Int) := by omega
  have i1 : (q : Int) < (q : Int) + 1 := by omega
  have i2 : (q : Int) ≤ (q : Int) + 1 := by omega
  have i3 : (q : Int) ≤ (c : Int) := by omega
  have i4 : q ≤ c := by omega
  go_enter Tryz.func58, Tryz.ntmps58
  go_wp2
  go_region_held3 (fun w' => w'.cell? ⟨b, off + q, none⟩ = some (.string (S q))) (go_keep) (fail)
  go_wp2
  exact bodyPost_ret (v := .tuple #[.slice (some ⟨b, off, none⟩) q c, .string (S q)]) (by simp [results, Tryz.results58, go_sem]) rfl ⟨rfl, rfl⟩
/-- The function value and what it has caught: the kind, the entry, itself. -/
structure PC (w : World) (K E C : Nat) (k : Int) (x : ByteArray) : Prop where
  kind : w.cell? ⟨K, 0, none⟩ = some (.int .i64 k)
  entry : w.cell? ⟨E, 0, none⟩ = some (.string x)
  self : w.cell? ⟨C, 0, none⟩ = some (.func (.func 55) #[] #[.pointer (some ⟨K, 0, none⟩), .pointer (some ⟨E, 0, none⟩), .pointer (some ⟨C, 0, none⟩)])
theorem PC.drew1 {w : World} {K E C : Nat} {k : Int} {x : ByteArray} (h : PC w K E C k x) : PC w.drew K E C k x := ⟨h.kind, h.entry, h.self⟩
theorem PC.later {w w' : World} {K E C : Nat} {k : Int} {x : ByteArray} (h : PC w K E C k x) (hb : Below w.heap.size w w') : PC w' K E C k x := ⟨keep hb h.kind, keep hb h.entry, keep hb h.self⟩
/-- What a path claims: a root, or nothing. -/
def cp (k : Int) (e : ByteArray) (S : Nat → ByteArray) (f i n m : Nat) : ByteArray × Bool := if m = pl f i n then (cl k e S f i n m, true) else (⟨#[]⟩, false)
set_option maxRecDepth 20000 in
set_option maxHeartbeats 1000000 in
theorem claimPath_one (k : Int) (X : ByteArray) (hX : X.size ≤ 4194304) (K E C : Nat) (m : Nat) (x : Int) (a : Option Addr) (c : Nat) (w : World) (r : ByteArray) (b : Bool) (hm : m ≤ 1048576) (hK : KeysAt w) (hP : PC w K E C k X)
    (hr : (if m = 0 then (leafD k X, true) else (⟨#[]⟩, false)) = (r, b)) :
    Calls Tryz.prog 55 #[.int .i64 x, .int .i64 1, .slice a m c, .pointer (some ⟨K, 0, none⟩), .pointer (some ⟨E, 0, none⟩), .pointer (some ⟨C, 0, none⟩)] w fun e w' => e = .returned (.tuple #[.string r, .bool b]) ∧ Below w.heap.size w w' := by
  obtain ⟨p1, p2, p3⟩ := hP
  by_cases h0 : m = 0
  · subst h0
    rw [if_pos rfl] at hr
    obtain ⟨hr1, hr2⟩ : leafD k X = r ∧ true = b := by simpa using hr
    subst hr2
    have HR : Hid (leafD k X = r) := hr1
    clear hr hr1
    go_enter Tryz.func55, Tryz.ntmps55
    go_wp2_with (go_at_call 56; refine (implLeaf_as k X _ hK hX r HR.out).mono ?_; rintro e w1 ⟨rfl, hb1⟩)
    exact bodyPost_ret (v := .tuple #[.string r, .bool true]) (by simp [results, Tryz.results55, go_sem]) rfl ⟨rfl, hb1⟩
  · rw [if_neg h0] at hr
    obtain ⟨hr1, hr2⟩ : (⟨#[]⟩ : ByteArray) = r ∧ false = b := by simpa using hr
    subst hr1 hr2
    have m0 : ¬ (m : Int) = 0 := by omega
    clear hr
    go_enter Tryz.func55, Tryz.ntmps55
    go_wp2
    exact bodyPost_ret (v := .tuple #[.string ⟨#[]⟩, .bool false]) (by simp [results, Tryz.results55, go_sem]) rfl ⟨rfl, Below.refl _ _⟩
set_option maxRecDepth 20000 in
set_option maxHeartbeats 4000000 in
theorem claimPath_as (k : Int) (X : ByteArray) (S : Nat → ByteArray) (hX : X.size ≤ 4194304) (K E C : Nat) (f : Nat) : ∀ (i n m : Nat) (x y : Int) (a : Option Addr) (c : Nat) (w : World) (r : ByteArray) (b : Bool), f ≤ 31 → 1 ≤ n → n ≤ 2 ^ f → i < n → x = i → y = n → m ≤ 1048576 → Sl w a m S → m ≤ c → (∀ j, j < m → (S j).size ≤ 2097152) → KeysAt w → PC w K E C k X → cp k X S f i n m = (r, b) →
    Calls Tryz.prog 55 #[.int .i64 x, .int .i64 y, .slice a m c, .pointer (some ⟨K, 0, none⟩), .pointer (some ⟨E, 0, none⟩), .pointer (some ⟨C, 0, none⟩)] w fun e w' => e = .returned (.tuple #[.string r, .bool b]) ∧ Below w.heap.size w w' := by
  induction f with
  | zero =>
    intro i n m x y a c w r b _ h1 hf hi hx hy hm h hc hsz hK hP hr
    obtain rfl : n = 1 := by simp at hf; omega
    subst hy
    exact claimPath_one k X hX K E C m x a c w r b hm hK hP hr
  | succ f ih =>
    intro i n m x y a c w r b h31 h1 hf hi hx hy hm h hc hsz hK hP hr
    have hcap := cap40 (by omega) hf
    have hcap2 : n ≤ 2147483648 := Nat.le_trans hf (Nat.pow_le_pow_right (by decide) h31)
    by_cases hn : n = 1
    · subst hn hy
      rw [cp, pl, cl, if_pos rfl, if_pos rfl] at hr
      exact claimPath_one k X hX K E C m x a c w r b hm hK hP hr
    · rw [cp, pl, cl, if_neg hn, if_neg hn] at hr
      have hs := spl_in n (by omega) hcap
      have hh := spl_half f n (by omega) hcap hf
      obtain ⟨s, hsn⟩ : ∃ s, spl n = s := ⟨_, rfl⟩
      have HSP : Hid (spl n = s) := hsn
      rw [hsn] at hr hs hh
      obtain ⟨hs1, hs2, hs3⟩ := hs
      have HF : Hid (s ≤ 2 ^ f) := hh
      have m1 : ¬ (n : Int) = 1 := by omega
      subst hx hy
      obtain ⟨p1, p2, p3⟩ := id hP
      clear hf hh hsn
      cases m with
      | zero =>
        have hr' : ((⟨#[]⟩ : ByteArray), false) = (r, b) := by
          rw [← hr]
          by_cases hlt : i < s
          · rw [if_pos hlt, if_neg (by omega)]
          · rw [if_neg hlt, if_neg (by omega)]
        obtain ⟨hr1, hr2⟩ : (⟨#[]⟩ : ByteArray) = r ∧ false = b := by simpa using hr'
        subst hr1 hr2
        clear hr hr' ih
        go_enter Tryz.func55, Tryz.ntmps55
        go_wp2
        exact bodyPost_ret (v := .tuple #[.string ⟨#[]⟩, .bool false]) (by simp [results, Tryz.results55, go_sem]) rfl ⟨rfl, Below.refl _ _⟩
      | succ q =>
        rw [Nat.add_sub_cancel] at hr
        have m0 : ¬ (q : Int) + 1 = 0 := by omega
        have d1 : ((n : Int) == 1) = false := by simpa using m1
        have d0 : ((q : Int) + 1 == 0) = false := by simpa using m0
        have hzq := hsz q (by omega)
        have hA := h.left q (by omega)
        by_cases hlt : i < s
        · rw [if_pos hlt, if_pos hlt] at hr
          have mlt : (i : Int) < s := by omega
          by_cases hq : q = pl f i s
          · rw [if_pos (by omega)] at hr
            obtain ⟨u, hu⟩ : ∃ u, cl k X S f i s q = u := ⟨_, rfl⟩
            have HU : Hid (cp k X S f i s q = (u, true)) := by show cp k X S f i s q = (u, true); rw [cp, if_pos hq, hu]
            have hul : u.size ≤ 32 := by rw [← hu]; exact cl_le _ _ _ _ _ _ _
            rw [hu] at hr
            obtain ⟨hr1, hr2⟩ : nodeD k u (S q) = r ∧ true = b := by simpa using hr
            subst hr2
            have HR : Hid (nodeD k u (S q) = r) := hr1
            clear hq hu hr hr1
            go_enter Tryz.func55, Tryz.ntmps55
            go_wp2_with (first | (go_at_call 57; refine (splitOf_as n _ _ (by rfl) (by omega) (by omega) s HSP.out).mono ?_; rintro e w' ⟨rfl, rfl⟩) | (go_at_call 58; refine (cutLast_any a q c S _ h hc).mono ?_; rintro e w' ⟨rfl, rfl⟩; have hA1 := hA.drew1; have hK1 := hK.drew1; have hP1 := hP.drew1) | (go_at_call 55; refine (ih i s q _ _ _ _ _ u true (by omega) hs1 HF.out hlt rfl rfl (by omega) hA1 (by omega) (fun j hj => hsz j (by omega)) hK1 hP1 HU.out).mono ?_; rintro e w1 ⟨rfl, hb1⟩; have p4 := keep hb1 hP1.kind) | (go_at_call 59; refine (implNode_as k u (S q) _ (keys_later hK1 hb1) (by omega) hzq r HR.out).mono ?_; rintro e w2 ⟨rfl, hb2⟩))
            exact bodyPost_ret (v := .tuple #[.string r, .bool true]) (by simp [results, Tryz.results55, go_sem]) rfl ⟨rfl, undrew (hb1.trans (hb2.mono hb1.size))⟩
          · rw [if_neg (by omega)] at hr
            have HU : Hid (cp k X S f i s q = (⟨#[]⟩, false)) := by show cp k X S f i s q = (⟨#[]⟩, false); rw [cp, if_neg hq]
            obtain ⟨hr1, hr2⟩ : (⟨#[]⟩ : ByteArray) = r ∧ false = b := by simpa using hr
            subst hr1 hr2
            clear hq hr
            go_enter Tryz.func55, Tryz.ntmps55
            go_wp2_with (first | (go_at_call 57; refine (splitOf_as n _ _ (by rfl) (by omega) (by omega) s HSP.out).mono ?_; rintro e w' ⟨rfl, rfl⟩) | (go_at_call 58; refine (cutLast_any a q c S _ h hc).mono ?_; rintro e w' ⟨rfl, rfl⟩; have hA1 := hA.drew1; have hK1 := hK.drew1; have hP1 := hP.drew1) | (go_at_call 55; refine (ih i s q _ _ _ _ _ _ false (by omega) hs1 HF.out hlt rfl rfl (by omega) hA1 (by omega) (fun j hj => hsz j (by omega)) hK1 hP1 HU.out).mono ?_; rintro e w1 ⟨rfl, hb1⟩))
            exact bodyPost_ret (v := .tuple #[.string ⟨#[]⟩, .bool false]) (by simp [results, Tryz.results55, go_sem]) rfl ⟨rfl, undrew hb1⟩
        · rw [if_neg hlt, if_neg hlt] at hr
          have mlt : ¬ (i : Int) < s := by omega
          by_cases hq : q = pl f (i - s) (n - s)
          · rw [if_pos (by omega)] at hr
            obtain ⟨u, hu⟩ : ∃ u, cl k X S f (i - s) (n - s) q = u := ⟨_, rfl⟩
            have HU : Hid (cp k X S f (i - s) (n - s) q = (u, true)) := by show cp k X S f (i - s) (n - s) q = (u, true); rw [cp, if_pos hq, hu]
            have hul : u.size ≤ 32 := by rw [← hu]; exact cl_le _ _ _ _ _ _ _
            rw [hu] at hr
            obtain ⟨hr1, hr2⟩ : nodeD k (S q) u = r ∧ true = b := by simpa using hr
            subst hr2
            have HR : Hid (nodeD k (S q) u = r) := hr1
            clear hq hu hr hr1
            go_enter Tryz.func55, Tryz.ntmps55
            go_wp2_with (first | (go_at_call 57; refine (splitOf_as n _ _ (by rfl) (by omega) (by omega) s HSP.out).mono ?_; rintro e w' ⟨rfl, rfl⟩) | (go_at_call 58; refine (cutLast_any a q c S _ h hc).mono ?_; rintro e w' ⟨rfl, rfl⟩; have hA1 := hA.drew1; have hK1 := hK.drew1; have hP1 := hP.drew1) | (go_at_call 55; refine (ih (i - s) (n - s) q _ _ _ _ _ u true (by omega) (by omega) (by have := HF.out; omega) (by omega) (by omega) (by omega) (by omega) hA1 (by omega) (fun j hj => hsz j (by omega)) hK1 hP1 HU.out).mono ?_; rintro e w1 ⟨rfl, hb1⟩; have p4 := keep hb1 hP1.kind) | (go_at_call 59; refine (implNode_as k (S q) u _ (keys_later hK1 hb1) hzq (by omega) r HR.out).mono ?_; rintro e w2 ⟨rfl, hb2⟩))
            exact bodyPost_ret (v := .tuple #[.string r, .bool true]) (by simp [results, Tryz.results55, go_sem]) rfl ⟨rfl, undrew (hb1.trans (hb2.mono hb1.size))⟩
          · rw [if_neg (by omega)] at hr
            have HU : Hid (cp k X S f (i - s) (n - s) q = (⟨#[]⟩, false)) := by show cp k X S f (i - s) (n - s) q = (⟨#[]⟩, false); rw [cp, if_neg hq]
            obtain ⟨hr1, hr2⟩ : (⟨#[]⟩ : ByteArray) = r ∧ false = b := by simpa using hr
            subst hr1 hr2
            clear hq hr
            go_enter Tryz.func55, Tryz.ntmps55
            go_wp2_with (first | (go_at_call 57; refine (splitOf_as n _ _ (by rfl) (by omega) (by omega) s HSP.out).mono ?_; rintro e w' ⟨rfl, rfl⟩) | (go_at_call 58; refine (cutLast_any a q c S _ h hc).mono ?_; rintro e w' ⟨rfl, rfl⟩; have hA1 := hA.drew1; have hK1 := hK.drew1; have hP1 := hP.drew1) | (go_at_call 55; refine (ih (i - s) (n - s) q _ _ _ _ _ _ false (by omega) (by omega) (by have := HF.out; omega) (by omega) (by omega) (by omega) (by omega) hA1 (by omega) (fun j hj => hsz j (by omega)) hK1 hP1 HU.out).mono ?_; rintro e w1 ⟨rfl, hb1⟩))
            exact bodyPost_ret (v := .tuple #[.string ⟨#[]⟩, .bool false]) (by simp [results, Tryz.results55, go_sem]) rfl ⟨rfl, undrew hb1⟩
end Go.Proofs.YtlbackkjjhpljaaGreatDoor
