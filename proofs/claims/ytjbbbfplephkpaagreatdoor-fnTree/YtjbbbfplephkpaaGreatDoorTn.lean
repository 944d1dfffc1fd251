/-
  A tree grown entry by entry: what its Peaks are.
-/
import Derived.Test.YtjbbbfplephkpaaGreatDoorRo
import Derived.Test.YtjbbbfplephkpaaGreatDoorGb
namespace Go.Proofs.YtjbbbfplephkpaaGreatDoor
open Go.RowKit
theorem sp_pow2 (f : Nat) : ∀ n k, ∃ b, b ≤ f ∧ sp f n k = k * 2 ^ b := by
  induction f with
  | zero => intro n k; exact ⟨0, by omega, by simp [sp]⟩
  | succ f ih =>
    intro n k
    rw [sp]
    split
    · obtain ⟨b, hb, e⟩ := ih n (2 * k)
      refine ⟨b + 1, by omega, ?_⟩
      rw [e, Nat.pow_succ, Nat.mul_comm 2 k, Nat.mul_assoc, Nat.mul_comm 2]
    · exact ⟨0, by omega, by simp⟩
theorem spl_len' (n : Nat) (_h : 2 ≤ n) (_hn : n ≤ 1099511627776) : ∃ c, c ≤ 40 ∧ spl n = 2 ^ c := by
  obtain ⟨c, hc, e⟩ := sp_pow2 40 n 1
  rw [Nat.one_mul] at e
  exact ⟨c, hc, e⟩
theorem spl_uniq (n b : Nat) (hn : n ≤ 1099511627776) (h1 : 2 ^ b < n) (h2 : n ≤ 2 * 2 ^ b) : spl n = 2 ^ b := by
  have hp : 0 < 2 ^ b := Nat.two_pow_pos b
  have hm := spl_in n (by omega) hn
  obtain ⟨c, g⟩ : ∃ c, spl n = 2 ^ c := by
    obtain ⟨c, _, g⟩ := spl_len' n (by omega) hn
    exact ⟨c, g⟩
  rw [g] at hm ⊢
  have a1 : 2 ^ c < 2 ^ (b + 1) := by rw [Nat.pow_succ]; omega
  have a2 : 2 ^ b < 2 ^ (c + 1) := by rw [Nat.pow_succ]; omega
  have b1 := (Nat.pow_lt_pow_iff_right (by decide : 1 < 2)).1 a1
  have b2 := (Nat.pow_lt_pow_iff_right (by decide : 1 < 2)).1 a2
  rw [show c = b by omega]
theorem spl_even (m : Nat) (h : 2 ≤ m) (hm : 2 * m ≤ 1099511627776) : spl (2 * m) = 2 * spl m := by
  obtain ⟨c, _, g⟩ := spl_len' m h (by omega)
  have hs := spl_in m h (by omega)
  rw [g] at hs ⊢
  rw [← Nat.pow_succ', spl_uniq (2 * m) (c + 1) hm (by rw [Nat.pow_succ]; omega) (by rw [Nat.pow_succ]; omega)]
theorem spl_odd (m : Nat) (h : 1 ≤ m) (hm : 2 * m + 1 ≤ 1099511627776) : spl (2 * m + 1) = 2 * spl (m + 1) := by
  obtain ⟨c, _, g⟩ := spl_len' (m + 1) (by omega) (by omega)
  have hs := spl_in (m + 1) (by omega) (by omega)
  rw [g] at hs ⊢
  rw [← Nat.pow_succ', spl_uniq (2 * m + 1) (c + 1) hm (by rw [Nat.pow_succ]; omega) (by rw [Nat.pow_succ]; omega)]
theorem ft_fuel (k : Int) (f : Nat) : ∀ (g n : Nat) (V : Nat → ByteArray), 1 ≤ n → n ≤ f → n ≤ g → n ≤ 1099511627776 → ft k f V n = ft k g V n := by
  induction f with
  | zero => intro g n V h1 h2; omega
  | succ f ih =>
    intro g n V h1 hf hg hn
    cases g with
    | zero => omega
    | succ g =>
      rw [ft, ft]
      by_cases h : n = 1
      · rw [if_pos h, if_pos h]
      · rw [if_neg h, if_neg h]
        have hs := spl_in n (by omega) hn
        rw [ih g (spl n) V (by omega) (by omega) (by omega) (by omega), ih g (n - spl n) _ (by omega) (by omega) (by omega) (by omega)]
def FT (k : Int) (V : Nat → ByteArray) (n : Nat) : ByteArray := ft k n V n
theorem FT_one (k : Int) (V : Nat → ByteArray) : FT k V 1 = V 0 := by
  unfold FT
  rw [ft, if_pos rfl]
theorem FT_two (k : Int) (V : Nat → ByteArray) (n : Nat) (h : 2 ≤ n) (hn : n ≤ 1099511627776) : FT k V n = nodeD k (FT k V (spl n)) (FT k (fun j => V (spl n + j)) (n - spl n)) := by
  obtain ⟨f, rfl⟩ : ∃ f, n = f + 1 := ⟨n - 1, by omega⟩
  have hs := spl_in (f + 1) h hn
  unfold FT
  rw [ft, if_neg (by omega), ft_fuel k f (spl (f + 1)) (spl (f + 1)) V (by omega) (by omega) (by omega) (by omega), ft_fuel k f (f + 1 - spl (f + 1)) (f + 1 - spl (f + 1)) _ (by omega) (by omega) (by omega) (by omega)]
theorem RT_FT (k : Int) (S : Nat → ByteArray) (n : Nat) (h : 1 ≤ n) (hn : n ≤ 1099511627776) : RT k S n = FT k (fun i => leafD k (S i)) n := (ft_rt k n n S h (Nat.le_refl _) hn).symm
/-- Pairs of neighbours. -/
def V2 (k : Int) (V : Nat → ByteArray) : Nat → ByteArray := fun j => nodeD k (V (2 * j)) (V (2 * j + 1))
theorem V2_at (k : Int) (V : Nat → ByteArray) (s : Nat) : V2 k (fun j => V (2 * s + j)) = fun j => V2 k V (s + j) := by
  funext j
  unfold V2
  rw [show 2 * (s + j) = 2 * s + 2 * j by omega]
  rfl
theorem FT_even (k : Int) (f : Nat) : ∀ (m : Nat) (V : Nat → ByteArray), m ≤ f → 1 ≤ m → 2 * m ≤ 1099511627776 → FT k V (2 * m) = FT k (V2 k V) m := by
  induction f with
  | zero => intro m V h1 h2; omega
  | succ f ih =>
    intro m V hf h1 hm
    by_cases h : m = 1
    · subst h
      have e : spl (2 * 1) = 1 := spl_uniq 2 0 (by omega) (by omega) (by omega)
      rw [FT_two k V (2 * 1) (by omega) hm, e, FT_one, FT_one, FT_one]
      rfl
    · have hs := spl_in m (by omega) (by omega)
      rw [FT_two k V (2 * m) (by omega) hm, spl_even m (by omega) hm, FT_two k (V2 k V) m (by omega) (by omega), ih (spl m) V (by omega) (by omega) (by omega), show 2 * m - 2 * spl m = 2 * (m - spl m) by omega, ih (m - spl m) _ (by omega) (by omega) (by omega), V2_at]
/-- m digests, and behind them a shorter piece whose root is x. -/
def et (k : Int) : Nat → (Nat → ByteArray) → Nat → ByteArray → ByteArray
  | 0, _, _, x => x
  | f + 1, V, m, x => if m = 0 then x else nodeD k (FT k V (spl (m + 1))) (et k f (fun j => V (spl (m + 1) + j)) (m - spl (m + 1)) x)
theorem et_nought (k : Int) (f : Nat) (V : Nat → ByteArray) (x : ByteArray) : et k f V 0 x = x := by
  cases f with
  | zero => rfl
  | succ f => rw [et, if_pos rfl]
theorem FT_odd (k : Int) (f : Nat) : ∀ (m : Nat) (V : Nat → ByteArray), m ≤ f → 2 * m + 1 ≤ 1099511627776 → FT k V (2 * m + 1) = et k f (V2 k V) m (V (2 * m)) := by
  induction f with
  | zero =>
    intro m V hf _
    obtain rfl : m = 0 := by omega
    exact FT_one k V
  | succ f ih =>
    intro m V hf hm
    rw [et]
    by_cases h : m = 0
    · subst h
      rw [if_pos rfl]
      exact FT_one k V
    · rw [if_neg h]
      have hs := spl_in (m + 1) (by omega) (by omega)
      rw [FT_two k V (2 * m + 1) (by omega) hm, spl_odd m (by omega) hm, FT_even k (spl (m + 1)) (spl (m + 1)) V (Nat.le_refl _) (by omega) (by omega), show 2 * m + 1 - 2 * spl (m + 1) = 2 * (m - spl (m + 1)) + 1 by omega, ih (m - spl (m + 1)) _ (by omega) (by omega), V2_at, show 2 * spl (m + 1) + 2 * (m - spl (m + 1)) = 2 * m by omega]
theorem et_fuel (k : Int) (f : Nat) : ∀ (g m : Nat) (V : Nat → ByteArray) (x : ByteArray), m ≤ f → m ≤ g → m + 1 ≤ 1099511627776 → et k f V m x = et k g V m x := by
  induction f with
  | zero =>
    intro g m V x hf _ _
    obtain rfl : m = 0 := by omega
    rw [et_nought, et_nought]
  | succ f ih =>
    intro g m V x hf hg hm
    cases g with
    | zero =>
      obtain rfl : m = 0 := by omega
      rw [et_nought, et_nought]
    | succ g =>
      rw [et, et]
      by_cases h : m = 0
      · rw [if_pos h, if_pos h]
      · rw [if_neg h, if_neg h]
        have hs := spl_in (m + 1) (by omega) hm
        rw [ih g (m - spl (m + 1)) _ x (by omega) (by omega) (by omega)]
theorem et_even (k : Int) (f : Nat) : ∀ (q : Nat) (V : Nat → ByteArray) (x : ByteArray), 2 * q ≤ f → 2 * q + 1 ≤ 1099511627776 → et k f V (2 * q) x = et k f (V2 k V) q x := by
  induction f with
  | zero =>
    intro q V x hf _
    obtain rfl : q = 0 := by omega
    rfl
  | succ f ih =>
    intro q V x hf hq
    rw [et, et]
    by_cases h : q = 0
    · subst h
      rw [if_pos rfl, if_pos rfl]
    · rw [if_neg (by omega), if_neg h]
      have hs := spl_in (q + 1) (by omega) (by omega)
      rw [spl_odd q (by omega) hq, FT_even k (spl (q + 1)) (spl (q + 1)) V (Nat.le_refl _) (by omega) (by omega), show 2 * q - 2 * spl (q + 1) = 2 * (q - spl (q + 1)) by omega, ih (q - spl (q + 1)) _ x (by omega) (by omega), V2_at]
theorem et_odd (k : Int) (f : Nat) : ∀ (q : Nat) (V : Nat → ByteArray) (x : ByteArray), 2 * q + 1 ≤ f → 2 * q + 2 ≤ 1099511627776 → et k f V (2 * q + 1) x = et k f (V2 k V) q (nodeD k (V (2 * q)) x) := by
  induction f with
  | zero => intro q V x hf; omega
  | succ f ih =>
    intro q V x hf hq
    rw [et, et, if_neg (by omega)]
    by_cases h : q = 0
    · subst h
      have e : spl (2 * 0 + 1 + 1) = 1 := spl_uniq 2 0 (by omega) (by omega) (by omega)
      rw [if_pos rfl, e, FT_one, et_nought]
    · rw [if_neg h]
      have hs := spl_in (q + 1) (by omega) (by omega)
      rw [show 2 * q + 1 + 1 = 2 * (q + 1) by omega, spl_even (q + 1) (by omega) (by omega), FT_even k (spl (q + 1)) (spl (q + 1)) V (Nat.le_refl _) (by omega) (by omega), show 2 * q + 1 - 2 * spl (q + 1) = 2 * (q - spl (q + 1)) + 1 by omega, ih (q - spl (q + 1)) _ x (by omega) (by omega), V2_at, show 2 * spl (q + 1) + 2 * (q - spl (q + 1)) = 2 * q by omega]
/-- The peaks of n digests, the lowest first. -/
def rp (k : Int) : Nat → (Nat → ByteArray) → Nat → List ByteArray
  | 0, _, _ => []
  | f + 1, V, n => if n % 2 = 1 then V (n - 1) :: rp k f (V2 k V) (n / 2) else rp k f (V2 k V) (n / 2)
def tl (k : Int) : List ByteArray → ByteArray → ByteArray
  | [], x => x
  | l :: L, x => tl k L (nodeD k l x)
theorem et_tl (k : Int) (f : Nat) : ∀ (m g : Nat) (V : Nat → ByteArray) (x : ByteArray), m < 2 ^ f → m ≤ g → m + 1 ≤ 1099511627776 → et k g V m x = tl k (rp k f V m) x := by
  induction f with
  | zero =>
    intro m g V x hf _ _
    obtain rfl : m = 0 := by simpa using hf
    exact et_nought k g V x
  | succ f ih =>
    intro m g V x hf hg hm
    rw [rp]
    have hf' : m / 2 < 2 ^ f := by rw [Nat.pow_succ] at hf; omega
    by_cases h : m % 2 = 1
    · rw [if_pos h, tl]
      obtain ⟨q, rfl⟩ : ∃ q, m = 2 * q + 1 := ⟨m / 2, by omega⟩
      rw [et_odd k g q V x hg (by omega), show (2 * q + 1) / 2 = q by omega, show 2 * q + 1 - 1 = 2 * q by omega]
      exact ih q g _ _ (by omega) (by omega) (by omega)
    · rw [if_neg h]
      obtain ⟨q, rfl⟩ : ∃ q, m = 2 * q := ⟨m / 2, by omega⟩
      rw [et_even k g q V x hg (by omega), show 2 * q / 2 = q by omega]
      exact ih q g _ _ (by omega) (by omega) (by omega)
/-- The root out of the peaks, the lowest first. -/
def fl (k : Int) : List ByteArray → ByteArray
  | [] => dg k ⟨#[]⟩
  | x :: L => tl k L x
/-- The root of n digests is the root out of their peaks. -/
theorem FT_fl (k : Int) (f : Nat) : ∀ (n : Nat) (V : Nat → ByteArray), 1 ≤ n → n < 2 ^ f → n ≤ 1099511627775 → FT k V n = fl k (rp k f V n) := by
  induction f with
  | zero => intro n V h1 hf; simp at hf; omega
  | succ f ih =>
    intro n V h1 hf hn
    rw [rp]
    have hf' : n / 2 < 2 ^ f := by rw [Nat.pow_succ] at hf; omega
    by_cases h : n % 2 = 1
    · rw [if_pos h]
      obtain ⟨q, rfl⟩ : ∃ q, n = 2 * q + 1 := ⟨n / 2, by omega⟩
      rw [FT_odd k q q V (Nat.le_refl _) (by omega), show (2 * q + 1) / 2 = q by omega, show 2 * q + 1 - 1 = 2 * q by omega]
      exact et_tl k f q q _ _ (by omega) (Nat.le_refl _) (by omega)
    · rw [if_neg h]
      obtain ⟨q, rfl⟩ : ∃ q, n = 2 * q := ⟨n / 2, by omega⟩
      rw [FT_even k q q V (Nat.le_refl _) (by omega) (by omega), show 2 * q / 2 = q by omega]
      exact ih q _ (by omega) (by omega) (by omega)
/-- The peaks with one digest e more. -/
def gw (k : Int) : Nat → List ByteArray → Nat → ByteArray → List ByteArray
  | 0, L, _, e => e :: L
  | _ + 1, [], _, e => [e]
  | f + 1, l :: L, n, e => if n % 2 = 1 then gw k f L (n / 2) (nodeD k l e) else e :: l :: L
theorem gw_even (k : Int) (f : Nat) (L : List ByteArray) (n : Nat) (e : ByteArray) (h : ¬ n % 2 = 1) : gw k f L n e = e :: L := by
  cases f with
  | zero => rfl
  | succ f =>
    cases L with
    | nil => rfl
    | cons l L => rw [gw, if_neg h]
theorem rp_grow (k : Int) (f : Nat) : ∀ (n : Nat) (V : Nat → ByteArray), n + 1 < 2 ^ f → rp k f V (n + 1) = gw k f (rp k f V n) n (V n) := by
  induction f with
  | zero => intro n V hf; simp at hf
  | succ f ih =>
    intro n V hf
    have hf' : n / 2 + 1 < 2 ^ f ∨ ¬ n % 2 = 1 := by rw [Nat.pow_succ] at hf; omega
    rw [rp, rp]
    by_cases h : n % 2 = 1
    · rw [if_neg (by omega), if_pos h, gw, if_pos h]
      rw [show (n + 1) / 2 = n / 2 + 1 by omega]
      have e : V2 k V (n / 2) = nodeD k (V (n - 1)) (V n) := by
        unfold V2
        rw [show 2 * (n / 2) = n - 1 by omega, show n - 1 + 1 = n by omega]
      rw [ih (n / 2) _ (by omega), e]
    · rw [if_pos (by omega), if_neg h, gw_even k _ _ _ _ h, show (n + 1) / 2 = n / 2 by omega]
      rfl
/-- The first n of S, the last first. -/
def lst (S : Nat → ByteArray) : Nat → List ByteArray
  | 0 => []
  | n + 1 => S n :: lst S n
theorem tl_from (k : Int) (S : Nat → ByteArray) (n : Nat) : ∀ (m j : Nat), m + j + 1 = n → tl k (lst S m) (fromR k S n j) = fromR k S n (j + m)
  | 0, _, _ => rfl
  | m + 1, j, h => by
    have e : nodeD k (S m) (fromR k S n j) = fromR k S n (j + 1) := by
      show _ = nodeD k (S (n - 2 - j)) (fromR k S n j)
      rw [show n - 2 - j = m by omega]
    show tl k (lst S m) (nodeD k (S m) (fromR k S n j)) = _
    rw [e, tl_from k S n m (j + 1) (by omega), show j + 1 + m = j + (m + 1) by omega]
/-- What TreeRoot answers, out of the list. -/
theorem rootD_fl (k : Int) (S : Nat → ByteArray) (n : Nat) : rootD k n S = fl k (lst S n) := by
  cases n with
  | zero => rfl
  | succ m =>
    have h := tl_from k S (m + 1) m 0 (by omega)
    unfold rootD
    rw [if_neg (by omega), show m + 1 - 1 = 0 + m by omega, ← h]
    rfl
theorem lst_len (S : Nat → ByteArray) : ∀ n, (lst S n).length = n
  | 0 => rfl
  | n + 1 => by rw [lst, List.length_cons, lst_len S n]
theorem rp_len (k : Int) (f : Nat) : ∀ (n : Nat) (V : Nat → ByteArray), (rp k f V n).length = pc f n := by
  induction f with
  | zero => intro n V; rfl
  | succ f ih =>
    intro n V
    rw [rp, pc]
    by_cases h : n % 2 = 1
    · rw [if_pos h, List.length_cons, ih, h]
      omega
    · rw [if_neg h, ih, show n % 2 = 0 by omega]
      omega
end Go.Proofs.YtjbbbfplephkpaaGreatDoor
namespace Go.Proofs.YtjbbbfplephkpaaGreatDoor
open Go.RowKit
/-- The new piece's digest after i joins, whatever it began with. -/
def gdq (k : Int) (S : Nat → ByteArray) (n : Nat) (d : ByteArray) : Nat → ByteArray
  | 0 => d
  | i + 1 => nodeD k (S (n - 1 - i)) (gdq k S n d i)
theorem gl_gdq (k : Int) (S : Nat → ByteArray) (n : Nat) (e : ByteArray) : ∀ i, gl k S n e i = gdq k S n (leafD k e) i
  | 0 => rfl
  | i + 1 => by rw [gl, gdq, gl_gdq k S n e i]
theorem gd_shift (k : Int) (S : Nat → ByteArray) (n : Nat) (d : ByteArray) : ∀ i, gdq k S n (nodeD k (S n) d) i = gdq k S (n + 1) d (i + 1)
  | 0 => rfl
  | i + 1 => by
    rw [gdq, gd_shift k S n d i]
    show _ = nodeD k (S (n + 1 - 1 - (i + 1))) (gdq k S (n + 1) d (i + 1))
    rw [show n + 1 - 1 - (i + 1) = n - 1 - i by omega]
theorem lst_congr {S T : Nat → ByteArray} : ∀ n, (∀ j, j < n → S j = T j) → lst S n = lst T n
  | 0, _ => rfl
  | n + 1, h => by rw [lst, lst, h n (by omega), lst_congr n (fun j hj => h j (by omega))]
theorem trail_step (f x : Nat) : trail (f + 1) x = if x % 2 = 1 then trail f (x / 2) + 1 else 0 := rfl
theorem gw_lst (k : Int) (S : Nat → ByteArray) (f : Nat) : ∀ (n x : Nat) (d : ByteArray), n = pc f x → gw k f (lst S n) x d = gdq k S n d (trail f x) :: lst S (n - trail f x) := by
  induction f with
  | zero => intro n x d _; rfl
  | succ f ih =>
    intro n x d h
    rw [pc] at h
    rw [trail_step]
    by_cases ho : x % 2 = 1
    · rw [if_pos ho]
      obtain ⟨m, rfl⟩ : ∃ m, n = m + 1 := ⟨n - 1, by omega⟩
      rw [lst, gw, if_pos ho, ih m (x / 2) _ (by omega), gd_shift, show m + 1 - (trail f (x / 2) + 1) = m - trail f (x / 2) by omega]
    · rw [if_neg ho, gw_even k _ _ _ _ ho]
      rfl
theorem grown_lst (k : Int) (S : Nat → ByteArray) (n i : Nat) (x : ByteArray) (h : n = on i) : gw k 12 (lst S n) i (leafD k x) = lst (grownS k S n x (lows i)) (n - lows i + 1) := by
  rw [gw_lst k S 12 n i _ h, lst, ← gl_gdq]
  show gl k S n x (lows i) :: lst S (n - lows i) = _
  congr 1
  · unfold grownS
    rw [if_neg (by omega)]
  · exact lst_congr _ (fun j hj => by unfold grownS; rw [if_pos hj])
theorem rp_zero (k : Int) (f : Nat) : ∀ V, rp k f V 0 = [] := by
  induction f with
  | zero => intro V; rfl
  | succ f ih => intro V; rw [rp, if_neg (by omega)]; exact ih _
/-- The tree after i of the entries E. -/
structure TI (k : Int) (E : Nat → ByteArray) (i n : Nat) (S : Nat → ByteArray) : Prop where
  kd : k = 0 ∨ k = 1
  le : i ≤ 2000
  num : n = on i
  wd : ∀ j, j < n → (S j).size = wid k
  pk : lst S n = rp k 12 (fun j => leafD k (E j)) i
theorem TI.zero (k : Int) (E S : Nat → ByteArray) (hk : k = 0 ∨ k = 1) : TI k E 0 0 S := ⟨hk, by omega, on_zero.symm, fun _ h => absurd h (Nat.not_lt_zero _), by rw [rp_zero]; rfl⟩
theorem TI.ok {k : Int} {E S : Nat → ByteArray} {i n : Nat} (h : TI k E i n S) : okB k (i : Int) n S = true :=
  okB_yes h.kd (by omega) (by have := h.le; omega) (by rw [Int.toNat_natCast]; exact h.num) h.wd
theorem TI.step {k : Int} {E S : Nat → ByteArray} {i n : Nat} (h : TI k E i n S) (hi : i < 2000) : TI k E (i + 1) (n - lows i + 1) (grownS k S n (E i) (lows i)) := by
  have hp : lst (grownS k S n (E i) (lows i)) (n - lows i + 1) = rp k 12 (fun j => leafD k (E j)) (i + 1) := by
    rw [← grown_lst k S n i (E i) h.num, h.pk, rp_grow k 12 i _ (by omega)]
  refine ⟨h.kd, by omega, ?_, fun j hj => ?_, hp⟩
  · have e := congrArg List.length hp
    rw [lst_len, rp_len] at e
    exact e
  · unfold grownS
    split
    · exact h.wd j (by omega)
    · exact gl_wid k S n _ h.kd _
theorem TI.root {k : Int} {E S : Nat → ByteArray} {i n : Nat} (h : TI k E i n S) : rootD k n S = RT k E i := by
  have hl := h.le
  rw [rootD_fl, h.pk]
  by_cases h0 : i = 0
  · subst h0
    rw [rp_zero]
    rfl
  · rw [RT_FT k E i (by omega) (by omega), FT_fl k 12 i _ (by omega) (by omega) (by omega)]
theorem TI.rootD {k : Int} {E S : Nat → ByteArray} {i n : Nat} (h : TI k E i n S) : treeRootD k (i : Int) n S = RT k E i := by
  unfold treeRootD
  rw [if_pos h.ok]
  exact h.root
end Go.Proofs.YtjbbbfplephkpaaGreatDoor
