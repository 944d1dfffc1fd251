/-
  Whether a proof fits and is accepted: the specification's way.
-/
import Derived.Test.YtlbackkjjhpljaaGreatDoorCk
namespace Go.Proofs.YtlbackkjjhpljaaGreatDoor
open Go.RowKit
/-- How many elements a proof of m among n has. -/
def ql : Nat → Nat → Nat → Bool → Nat
  | 0, _, _, b => if b then 0 else 1
  | f + 1, m, n, b => if m = n then (if b then 0 else 1) else if m ≤ spl n then 1 + ql f m (spl n) b else 1 + ql f (m - spl n) (n - spl n) false
theorem ql_le (f : Nat) : ∀ m n b, ql f m n b ≤ f + 1 := by
  induction f with
  | zero => intro m n b; rw [ql]; split <;> omega
  | succ f ih =>
    intro m n b
    have h1 := ih m (spl n) b
    have h2 := ih (m - spl n) (n - spl n) false
    rw [ql]
    split
    · split <;> omega
    · split <;> omega
theorem ql_same (f m : Nat) (b : Bool) : ql f m m b = if b then 0 else 1 := by
  cases f with
  | zero => rfl
  | succ f => rw [ql, if_pos rfl]
set_option maxRecDepth 20000 in
set_option maxHeartbeats 1000000 in
theorem specProofLen_same (m : Nat) (b : Bool) (p : Nat) (w : World) (hp : (if b then 0 else 1) = p) :
    Calls Tryz.prog 65 #[.int .i64 m, .int .i64 m, .bool b] w fun e w' => e = .returned (.int .i64 (p : Int)) ∧ w' = w := by
  cases b
  all_goals
    subst hp
    go_enter Tryz.func65, Tryz.ntmps65
    go_wp2
    go_ret
    exact ⟨rfl, rfl⟩
set_option maxRecDepth 20000 in
set_option maxHeartbeats 1000000 in
theorem specProofLen_as (f : Nat) : ∀ (m n : Nat) (b : Bool) (x y : Int) (p : Nat) (w : World), f ≤ 40 → 1 ≤ m → n ≤ 2 ^ f → m ≤ n → x = m → y = n → ql f m n b = p →
    Calls Tryz.prog 65 #[.int .i64 x, .int .i64 y, .bool b] w fun e w' => e = .returned (.int .i64 (p : Int)) ∧ w' = w := by
  induction f with
  | zero =>
    intro m n b x y p w _ h1 hf hi hx hy hp
    obtain rfl : n = 1 := by simp at hf; omega
    obtain rfl : m = 1 := by omega
    subst hx hy
    exact specProofLen_same 1 b p w hp
  | succ f ih =>
    intro m n b x y p w h40 h1 hf hi hx hy hp
    have hcap := cap40 h40 hf
    by_cases hn : m = n
    · subst hn hx hy
      rw [ql_same] at hp
      exact specProofLen_same m b p w hp
    · rw [ql, if_neg hn] at hp
      have hs := spl_in n (by omega) hcap
      have hh := spl_half f n (by omega) hcap hf
      obtain ⟨s, hsn⟩ : ∃ s, spl n = s := ⟨_, rfl⟩
      have HSP : Hid (spl n = s) := hsn
      rw [hsn] at hp hs hh
      obtain ⟨hs1, hs2, hs3⟩ := hs
      have HF : Hid (s ≤ 2 ^ f) := hh
      have m1 : ¬ (m : Int) = n := by omega
      subst hx hy
      clear hf hh hsn
      by_cases hlt : m ≤ s
      · rw [if_pos hlt] at hp
        have hle := ql_le f m s b
        obtain ⟨q, hq⟩ : ∃ q, ql f m s b = q := ⟨_, rfl⟩
        have HQ : Hid (ql f m s b = q) := hq
        rw [hq] at hp hle
        subst hp
        clear hq
        have mlt : (m : Int) ≤ s := by omega
        go_enter Tryz.func65, Tryz.ntmps65
        go_wp2_with (first | (go_at_call 38; refine (l2Split_as n _ _ (by rfl) hcap s HSP.out).mono ?_; rintro e w' ⟨rfl, rfl⟩) | (go_at_call 65; refine (ih m s b _ _ q _ (by omega) h1 HF.out hlt rfl rfl HQ.out).mono ?_; rintro e w' ⟨rfl, rfl⟩))
        go_ret
        exact ⟨ret_int (by omega), rfl⟩
      · rw [if_neg hlt] at hp
        have hle := ql_le f (m - s) (n - s) false
        obtain ⟨q, hq⟩ : ∃ q, ql f (m - s) (n - s) false = q := ⟨_, rfl⟩
        have HQ : Hid (ql f (m - s) (n - s) false = q) := hq
        rw [hq] at hp hle
        subst hp
        clear hq
        have mlt : ¬ (m : Int) ≤ s := by omega
        go_enter Tryz.func65, Tryz.ntmps65
        go_wp2_with (first | (go_at_call 38; refine (l2Split_as n _ _ (by rfl) hcap s HSP.out).mono ?_; rintro e w' ⟨rfl, rfl⟩) | (go_at_call 65; refine (ih (m - s) (n - s) false _ _ q _ (by omega) (by omega) (by have := HF.out; omega) (by omega) (by omega) (by omega) HQ.out).mono ?_; rintro e w' ⟨rfl, rfl⟩))
        go_ret
        exact ⟨ret_int (by omega), rfl⟩
/-- The two claims of a proof S of q elements. -/
def cq (k : Int) (O : ByteArray) (S : Nat → ByteArray) : Nat → Nat → Nat → Nat → Bool → ByteArray × ByteArray
  | 0, _, _, _, b => if b then (O, O) else (S 0, S 0)
  | f + 1, m, n, q, b => if m = n then (if b then (O, O) else (S 0, S 0)) else if m ≤ spl n then ((cq k O S f m (spl n) (q - 1) b).1, nodeD k (cq k O S f m (spl n) (q - 1) b).2 (S (q - 1))) else (nodeD k (S (q - 1)) (cq k O S f (m - spl n) (n - spl n) (q - 1) false).1, nodeD k (S (q - 1)) (cq k O S f (m - spl n) (n - spl n) (q - 1) false).2)
theorem cq_same (k : Int) (O : ByteArray) (S : Nat → ByteArray) (f m q : Nat) (b : Bool) : cq k O S f m m q b = if b then (O, O) else (S 0, S 0) := by
  cases f with
  | zero => rfl
  | succ f => rw [cq, if_pos rfl]
theorem cq_le (k : Int) (O : ByteArray) (S : Nat → ByteArray) (hO : O.size ≤ 2097152) (f : Nat) : ∀ (m n q : Nat) (b : Bool), 1 ≤ m → m ≤ n → n ≤ 2 ^ f → f ≤ 40 → q = ql f m n b → (∀ j, j < q → (S j).size ≤ 2097152) → (cq k O S f m n q b).1.size ≤ 2097152 ∧ (cq k O S f m n q b).2.size ≤ 2097152 := by
  induction f with
  | zero =>
    intro m n q b _ _ _ _ hq hs
    rw [cq]
    cases b
    · have := hs 0 (by rw [hq, ql]; decide); exact ⟨this, this⟩
    · exact ⟨hO, hO⟩
  | succ f ih =>
    intro m n q b h1 hmn hf h40 hq hs
    by_cases hn : m = n
    · subst hn
      rw [cq_same]
      cases b
      · have := hs 0 (by rw [hq, ql_same]; decide); exact ⟨this, this⟩
      · exact ⟨hO, hO⟩
    · rw [ql, if_neg hn] at hq
      rw [cq, if_neg hn]
      have hcap := cap40 h40 hf
      have hsp := spl_in n (by omega) hcap
      have hh := spl_half f n (by omega) hcap hf
      by_cases hlt : m ≤ spl n
      · rw [if_pos hlt] at hq ⊢
        exact ⟨(ih m (spl n) (q - 1) b h1 hlt hh (by omega) (by omega) (fun j hj => hs j (by omega))).1, Nat.le_trans (dg_le _ _) (by omega)⟩
      · rw [if_neg hlt]
        exact ⟨Nat.le_trans (dg_le _ _) (by omega), Nat.le_trans (dg_le _ _) (by omega)⟩
set_option maxRecDepth 20000 in
set_option maxHeartbeats 1000000 in
theorem specClaims_same (k : Int) (O : ByteArray) (S : Nat → ByteArray) (m q : Nat) (b : Bool) (a : Option Addr) (c : Nat) (w : World) (o v : ByteArray) (hq : q = if b then 0 else 1) (h : Sl w a q S) (hc : q ≤ c) (hr : (if b then (O, O) else (S 0, S 0)) = (o, v)) :
    Calls Tryz.prog 49 #[.int .i64 k, .int .i64 m, .string O, .int .i64 m, .slice a q c, .bool b] w fun e w' => e = .returned (.tuple #[.string o, .string v]) ∧ Below w.heap.size w w' := by
  cases b
  · obtain ⟨rfl, rfl⟩ : S 0 = o ∧ S 0 = v := by simpa using hr
    simp at hq
    subst hq
    obtain ⟨P, off, rfl, hc0⟩ := h.at 0 (by omega)
    rw [Nat.add_zero] at hc0
    go_enter Tryz.func49, Tryz.ntmps49
    go_wp2
    go_region_held3 (fun w' => w'.cell? ⟨P, off, none⟩ = some (.string (S 0))) (go_keep) (fail)
    go_wp2
    refine bodyPost_ret (v := .tuple #[.string (S 0), .string (S 0)]) (by simp [results, Tryz.results49, go_sem]) rfl ⟨rfl, undrew (Below.refl _ _)⟩
  · obtain ⟨rfl, rfl⟩ : O = o ∧ O = v := by simpa using hr
    go_enter Tryz.func49, Tryz.ntmps49
    go_wp2
    refine bodyPost_ret (v := .tuple #[.string O, .string O]) (by simp [results, Tryz.results49, go_sem]) rfl ⟨rfl, Below.refl _ _⟩
set_option maxRecDepth 20000 in
set_option maxHeartbeats 2000000 in
theorem specClaims_as (k : Int) (O : ByteArray) (S : Nat → ByteArray) (hO : O.size ≤ 2097152) (f : Nat) : ∀ (m n q : Nat) (b : Bool) (x y : Int) (a : Option Addr) (c : Nat) (w : World) (o v : ByteArray), f ≤ 40 → 1 ≤ m → m ≤ n → n ≤ 2 ^ f → x = m → y = n → q = ql f m n b → Sl w a q S → q ≤ c → (∀ j, j < q → (S j).size ≤ 2097152) → cq k O S f m n q b = (o, v) →
    Calls Tryz.prog 49 #[.int .i64 k, .int .i64 x, .string O, .int .i64 y, .slice a q c, .bool b] w fun e w' => e = .returned (.tuple #[.string o, .string v]) ∧ Below w.heap.size w w' := by
  induction f with
  | zero =>
    intro m n q b x y a c w o v _ h1 hmn hf hx hy hq h hc hsz hr
    obtain rfl : n = 1 := by simp at hf; omega
    obtain rfl : m = 1 := by omega
    subst hx hy
    exact specClaims_same k O S 1 q b a c w o v hq h hc hr
  | succ f ih =>
    intro m n q b x y a c w o v h40 h1 hmn hf hx hy hq h hc hsz hr
    have hcap := cap40 h40 hf
    by_cases hn : m = n
    · subst hn hx hy
      rw [ql_same] at hq
      rw [cq_same] at hr
      exact specClaims_same k O S m q b a c w o v hq h hc hr
    · rw [ql, if_neg hn] at hq
      rw [cq, if_neg hn] at hr
      have hs := spl_in n (by omega) hcap
      have hh := spl_half f n (by omega) hcap hf
      obtain ⟨s, hsn⟩ : ∃ s, spl n = s := ⟨_, rfl⟩
      have HSP : Hid (spl n = s) := hsn
      rw [hsn] at hq hr hs hh
      obtain ⟨hs1, hs2, hs3⟩ := hs
      have HF : Hid (s ≤ 2 ^ f) := hh
      have m1 : ¬ (m : Int) = n := by omega
      subst hx hy
      clear hf hh hsn
      by_cases hlt : m ≤ s
      · rw [if_pos hlt] at hq hr
        have hle := ql_le f m s b
        obtain ⟨p, hp⟩ : ∃ p, ql f m s b = p := ⟨_, rfl⟩
        rw [hp] at hq hle
        obtain rfl : q = p + 1 := by omega
        rw [Nat.add_sub_cancel] at hr
        have hB := cq_le k O S hO f m s p b h1 hlt HF.out (by omega) hp.symm (fun j hj => hsz j (by omega))
        have HP : Hid (p = ql f m s b) := hp.symm
        obtain ⟨⟨o1, v1⟩, hu⟩ : ∃ u, cq k O S f m s p b = u := ⟨_, rfl⟩
        have HU : Hid (cq k O S f m s p b = (o1, v1)) := hu
        rw [hu] at hr hB
        obtain ⟨rfl, hr2⟩ : o1 = o ∧ nodeD k v1 (S p) = v := by simpa using hr
        have hv1 : v1.size ≤ 2097152 := hB.2
        have HR : Hid (nodeD k v1 (S p) = v) := hr2
        have hzq := hsz p (by omega)
        obtain ⟨P, off, rfl, hc1⟩ := h.at p (by omega)
        have hA := h.left p (by omega)
        clear hq hp hu hr hr2 hB
        have mlt : (m : Int) ≤ s := by omega
        go_enter Tryz.func49, Tryz.ntmps49
        go_wp2_with (first | (go_at_call 38; refine (l2Split_as n _ _ (by rfl) hcap s HSP.out).mono ?_; rintro e w' ⟨rfl, rfl⟩) | (go_at_call 49; refine (ih m s p b _ _ _ _ _ o1 v1 (by omega) h1 hlt HF.out rfl rfl HP.out hA (by omega) (fun j hj => hsz j (by omega)) HU.out).mono ?_; rintro e w1 ⟨rfl, hb1⟩) | (go_at_call 39; refine (specNode_as k v1 (S p) _ hv1 hzq v HR.out).mono ?_; rintro e w2 ⟨rfl, hb2⟩))
        refine bodyPost_ret (v := .tuple #[.string o1, .string v]) (by simp [results, Tryz.results49, go_sem]) rfl ⟨rfl, hb1.trans (hb2.mono hb1.size)⟩
      · rw [if_neg hlt] at hq hr
        have hle := ql_le f (m - s) (n - s) false
        obtain ⟨p, hp⟩ : ∃ p, ql f (m - s) (n - s) false = p := ⟨_, rfl⟩
        rw [hp] at hq hle
        obtain rfl : q = p + 1 := by omega
        rw [Nat.add_sub_cancel] at hr
        have hB := cq_le k O S hO f (m - s) (n - s) p false (by omega) (by omega) (by have := HF.out; omega) (by omega) hp.symm (fun j hj => hsz j (by omega))
        have HP : Hid (p = ql f (m - s) (n - s) false) := hp.symm
        obtain ⟨⟨o1, v1⟩, hu⟩ : ∃ u, cq k O S f (m - s) (n - s) p false = u := ⟨_, rfl⟩
        have HU : Hid (cq k O S f (m - s) (n - s) p false = (o1, v1)) := hu
        rw [hu] at hr hB
        obtain ⟨ho, hv⟩ : nodeD k (S p) o1 = o ∧ nodeD k (S p) v1 = v := by simpa using hr
        obtain ⟨ho1, hv1⟩ := hB
        have HO' : Hid (nodeD k (S p) o1 = o) := ho
        have HV' : Hid (nodeD k (S p) v1 = v) := hv
        have hzq := hsz p (by omega)
        obtain ⟨P, off, rfl, hc1⟩ := h.at p (by omega)
        have hA := h.left p (by omega)
        clear hq hp hu hr ho hv
        have mlt : ¬ (m : Int) ≤ s := by omega
        go_enter Tryz.func49, Tryz.ntmps49
        go_wp2_with (first | (go_at_call 38; refine (l2Split_as n _ _ (by rfl) hcap s HSP.out).mono ?_; rintro e w' ⟨rfl, rfl⟩) | (go_at_call 49; refine (ih (m - s) (n - s) p false _ _ _ _ _ o1 v1 (by omega) (by omega) (by omega) (by have := HF.out; omega) (by omega) (by omega) HP.out hA (by omega) (fun j hj => hsz j (by omega)) HU.out).mono ?_; rintro e w1 ⟨rfl, hb1⟩) | (go_at_call 39; have _hh := hb2; refine (specNode_as k (S p) v1 _ hzq hv1 v HV'.out).mono ?_; rintro e w3 ⟨rfl, hb3⟩) | (go_at_call 39; refine (specNode_as k (S p) o1 _ hzq ho1 o HO'.out).mono ?_; rintro e w2 ⟨rfl, hb2⟩))
        refine bodyPost_ret (v := .tuple #[.string o, .string v]) (by simp [results, Tryz.results49, go_sem]) rfl ⟨rfl, (hb1.trans (hb2.mono hb1.size)).trans (hb3.mono (Nat.le_trans hb1.size hb2.size))⟩
end Go.Proofs.YtlbackkjjhpljaaGreatDoor
namespace Go.Proofs.YtlbackkjjhpljaaGreatDoor
open Go.RowKit
/-- The proof S of m elements fits the first x of y. -/
def FitsP (k x y : Int) (m : Nat) (S : Nat → ByteArray) : Prop :=
  (k = 0 ∨ k = 1) ∧ (∀ j, j < m → (S j).size = wid k) ∧ 1 ≤ y ∧ y ≤ 2147483648 ∧ 1 ≤ x ∧ x ≤ y ∧ m = ql 31 x.toNat y.toNat true
def FitsP.dec (k x y : Int) (m : Nat) (S : Nat → ByteArray) : Decidable (FitsP k x y m S) := by unfold FitsP; exact inferInstance
def chqB (k x y : Int) (O R : ByteArray) (m : Nat) (S : Nat → ByteArray) : Bool := haveI := FitsP.dec k x y m S; decide (FitsP k x y m S ∧ O.size = wid k ∧ (cq k O S 31 x.toNat y.toNat m true).1 = O ∧ (cq k O S 31 x.toNat y.toNat m true).2 = R)
set_option maxRecDepth 20000 in
set_option maxHeartbeats 1000000 in
theorem fitsP_yes (k x y : Int) (a : Option Addr) (m c : Nat) (S : Nat → ByteArray) (w : World) (h : Sl w a m S) (hf : FitsP k x y m S) :
    Calls Tryz.prog 31 #[.int .i64 k, .int .i64 x, .int .i64 y, .slice a m c] w fun e w' => e = .returned (.bool true) ∧ w' = w := by
  obtain ⟨hk, hs, hy1, hy2, hx1, hx2, hm⟩ := hf
  have HM : Hid (ql 31 x.toNat y.toNat true = m) := hm.symm
  have hm31 : m ≤ 32 := by rw [hm]; exact ql_le _ _ _ _
  clear hm
  go_enter Tryz.func31, Tryz.ntmps31
  go_wp2_with (first | (go_at_call 50; refine (widths_yes k a m c S _ h hk hs).mono ?_; rintro e w1 ⟨rfl, rfl⟩) | (go_at_call 51; refine (betw_yes _ _ _ _ (by omega) (by omega)).mono ?_; rintro e w1 ⟨rfl, rfl⟩) | (go_at_call 65; refine (specProofLen_as 31 x.toNat y.toNat true _ _ m _ (by omega) (by omega) (by omega) (by omega) (by omega) (by omega) HM.out).mono ?_; rintro e w1 ⟨rfl, rfl⟩))
  go_ret
  exact ⟨ret_bool (by simp), rfl⟩
set_option maxRecDepth 20000 in
set_option maxHeartbeats 1000000 in
theorem fitsP_no (k x y : Int) (a : Option Addr) (m c : Nat) (S : Nat → ByteArray) (w : World) (h : Sl w a m S) (hf : ¬ FitsP k x y m S) :
    Calls Tryz.prog 31 #[.int .i64 k, .int .i64 x, .int .i64 y, .slice a m c] w fun e w' => e = .returned (.bool false) ∧ w' = w := by
  by_cases hw : (k = 0 ∨ k = 1) ∧ ∀ j, j < m → (S j).size = wid k
  · obtain ⟨hk, hs⟩ := hw
    by_cases hy : 1 ≤ y ∧ y ≤ 2147483648
    · obtain ⟨hy1, hy2⟩ := hy
      by_cases hx : 1 ≤ x ∧ x ≤ y
      · obtain ⟨hx1, hx2⟩ := hx
        have hm : ¬ m = ql 31 x.toNat y.toNat true := fun e => hf ⟨hk, hs, hy1, hy2, hx1, hx2, e⟩
        obtain ⟨p, hp⟩ : ∃ p, ql 31 x.toNat y.toNat true = p := ⟨_, rfl⟩
        have HP : Hid (ql 31 x.toNat y.toNat true = p) := hp
        rw [hp] at hm
        have hm' : ¬ (m : Int) = p := by omega
        clear hf hp
        go_enter Tryz.func31, Tryz.ntmps31
        go_wp2_with (first | (go_at_call 50; refine (widths_yes k a m c S _ h hk hs).mono ?_; rintro e w1 ⟨rfl, rfl⟩) | (go_at_call 51; refine (betw_yes _ _ _ _ (by omega) (by omega)).mono ?_; rintro e w1 ⟨rfl, rfl⟩) | (go_at_call 65; refine (specProofLen_as 31 x.toNat y.toNat true _ _ p _ (by omega) (by omega) (by omega) (by omega) (by omega) (by omega) HP.out).mono ?_; rintro e w1 ⟨rfl, rfl⟩))
        go_ret
        exact ⟨ret_bool (by simp [hm']), rfl⟩
      · clear hf
        go_enter Tryz.func31, Tryz.ntmps31
        go_wp2_with (first | (go_at_call 50; refine (widths_yes k a m c S _ h hk hs).mono ?_; rintro e w1 ⟨rfl, rfl⟩) | (go_at_call 51; refine (betw_yes _ _ _ _ (by omega) (by omega)).mono ?_; rintro e w1 ⟨rfl, rfl⟩) | (go_at_call 51; refine (betw_no _ _ _ _ (by omega)).mono ?_; rintro e w1 ⟨rfl, rfl⟩))
        go_ret
        exact ⟨rfl, rfl⟩
    · clear hf
      go_enter Tryz.func31, Tryz.ntmps31
      go_wp2_with (first | (go_at_call 50; refine (widths_yes k a m c S _ h hk hs).mono ?_; rintro e w1 ⟨rfl, rfl⟩) | (go_at_call 51; refine (betw_no _ _ _ _ (by omega)).mono ?_; rintro e w1 ⟨rfl, rfl⟩))
      go_ret
      exact ⟨rfl, rfl⟩
  · clear hf
    go_enter Tryz.func31, Tryz.ntmps31
    go_wp2_with (go_at_call 50; refine (widths_no k a m c S _ h hw).mono ?_; rintro e w1 ⟨rfl, rfl⟩)
    go_ret
    exact ⟨rfl, rfl⟩
set_option maxRecDepth 20000 in
set_option maxHeartbeats 1000000 in
/-- spec.CheckProof. -/
theorem specCheckProof_any (k x y : Int) (O R : ByteArray) (a : Option Addr) (m c : Nat) (S : Nat → ByteArray) (w : World) (hO : O.size ≤ 2097152) (h : Sl w a m S) (hc : m ≤ c) :
    Calls Tryz.prog 22 #[.int .i64 k, .int .i64 x, .string O, .int .i64 y, .string R, .slice a m c] w fun e w' => e = .returned (.bool (chqB k x y O R m S)) ∧ Below w.heap.size w w' := by
  by_cases hf : FitsP k x y m S
  · by_cases ho : O.size = wid k
    · have hsz : ∀ j, j < m → (S j).size ≤ 2097152 := fun j hj => by
        have := hf.2.1 j hj
        unfold wid at this
        split at this <;> omega
      have hs := hf.2.2
      obtain ⟨hy1, hy2, hx1, hx2, hm⟩ := hs
      obtain ⟨⟨o, v⟩, hu⟩ : ∃ u, cq k O S 31 x.toNat y.toNat m true = u := ⟨_, rfl⟩
      have HU : Hid (cq k O S 31 x.toNat y.toNat m true = (o, v)) := hu
      have HM : Hid (m = ql 31 x.toNat y.toNat true) := hm
      have HF : Hid (FitsP k x y m S) := hf
      have ho' : (O.size : Int) = (wid k : Nat) := by omega
      have HB : Hid (chqB k x y O R m S = decide (o = O ∧ v = R)) := by
        show _ = _
        unfold chqB
        rw [hu]
        by_cases e : o = O ∧ v = R
        · rw [dT e, dT ⟨hf, ho, e⟩]
        · rw [dF e, dF fun h => e h.2.2]
      clear hf hu hm
      by_cases e1 : o = O
      · have e1' : (o.toList == O.toList) = true := by rw [bytes_eq, dT e1]
        go_enter Tryz.func22, Tryz.ntmps22
        go_wp2_with (first | (go_at_call 31; refine (fitsP_yes k x y a m c S _ h HF.out).mono ?_; rintro e w1 ⟨rfl, rfl⟩) | (go_at_call 48; refine (width_any _ _).mono ?_; rintro e w1 ⟨rfl, rfl⟩) | (go_at_call 49; refine (specClaims_as k O S hO 31 x.toNat y.toNat m true _ _ a c _ o v (by omega) (by omega) (by omega) (by omega) (by omega) (by omega) HM.out h hc hsz HU.out).mono ?_; rintro e w2 ⟨rfl, hb2⟩))
        go_ret
        exact ⟨ret_bool (by rw [HB.out, bytes_eq]; simp [e1]), hb2⟩
      · have e1' : (o.toList == O.toList) = false := by rw [bytes_eq, dF e1]
        go_enter Tryz.func22, Tryz.ntmps22
        go_wp2_with (first | (go_at_call 31; refine (fitsP_yes k x y a m c S _ h HF.out).mono ?_; rintro e w1 ⟨rfl, rfl⟩) | (go_at_call 48; refine (width_any _ _).mono ?_; rintro e w1 ⟨rfl, rfl⟩) | (go_at_call 49; refine (specClaims_as k O S hO 31 x.toNat y.toNat m true _ _ a c _ o v (by omega) (by omega) (by omega) (by omega) (by omega) (by omega) HM.out h hc hsz HU.out).mono ?_; rintro e w2 ⟨rfl, hb2⟩))
        go_ret
        exact ⟨ret_bool (by rw [HB.out]; simp [e1]), hb2⟩
    · have hno : chqB k x y O R m S = false := dF fun e => ho e.2.1
      have ho' : ¬ (O.size : Int) = (wid k : Nat) := by omega
      go_enter Tryz.func22, Tryz.ntmps22
      go_wp2_with (first | (go_at_call 31; refine (fitsP_yes k x y a m c S _ h hf).mono ?_; rintro e w1 ⟨rfl, rfl⟩) | (go_at_call 48; refine (width_any _ _).mono ?_; rintro e w1 ⟨rfl, rfl⟩))
      go_ret
      exact ⟨ret_bool hno.symm, Below.refl _ _⟩
  · have hno : chqB k x y O R m S = false := dF fun e => hf e.1
    go_enter Tryz.func22, Tryz.ntmps22
    go_wp2_with (go_at_call 31; refine (fitsP_no k x y a m c S _ h hf).mono ?_; rintro e w1 ⟨rfl, rfl⟩)
    go_ret
    exact ⟨ret_bool hno.symm, Below.refl _ _⟩
end Go.Proofs.YtlbackkjjhpljaaGreatDoor
