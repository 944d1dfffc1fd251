/-
  What the specification draws: expressions.
-/
import Derived.Test.YtlilmbeehmjpkaaJi
import Derived.Deep.Onto
namespace Go.Proofs.Ytlilmbeehmjpkaa
open Go.RowKit
set_option maxRecDepth 20000 in
theorem Try.info74i : (Try.prog.info? 74).map (fun i => (i.zero, i.size, i.bytes)) = some (some (.agg #[.int .i64 0, .int .i64 0, .string ⟨#[]⟩]), 3, 32) := by kernel_rfl
theorem arity_two (x : Int) : 0 ≤ arity x ∧ arity x ≤ 2 := by
  unfold arity
  repeat' split
  all_goals omega
/-- Its cells, an item's. -/
def ci3 (i : Itm) : List Value := [.int .i64 i.o, .int .i64 i.m, .string i.s]
def i0_ : Itm := ⟨0, 0, ⟨#[]⟩⟩
/-- How deep the stack is behind a list of items. -/
def exL : List Itm → Int → Option Int
  | [], d => some d
  | i :: t, d => if okItem i.o i.m i.s = true ∧ arity i.o ≤ d then exL t (d + (1 - arity i.o)) else none
theorem exL_app : ∀ (A B : List Itm) (d r : Int), exL A d = some r → exL (A ++ B) d = exL B r
  | [], B, d, r, h => by
    simp only [exL, Option.some.injEq] at h
    rw [h]
    rfl
  | i :: t, B, d, r, h => by
    simp only [exL, List.cons_append] at h ⊢
    split at h
    · rename_i hc
      rw [if_pos hc]
      exact exL_app t B _ _ h
    · cases h
theorem exL_up : ∀ (A : List Itm) (d r c : Int), 0 ≤ c → exL A d = some r → exL A (d + c) = some (r + c)
  | [], d, r, c, _, h => by
    simp only [exL, Option.some.injEq] at h ⊢
    rw [h]
  | i :: t, d, r, c, hc, h => by
    simp only [exL] at h ⊢
    split at h
    · rename_i hk
      rw [if_pos ⟨hk.1, by omega⟩, show d + c + (1 - arity i.o) = d + (1 - arity i.o) + c by omega]
      exact exL_up t _ _ _ hc h
    · cases h
theorem exL_ex (L : List Itm) : ∀ n d, n ≤ L.length → exL (L.take n) 0 = some d → ex (fun k => L.getD k i0_) n = some d
  | 0, d, _, h => by simpa [exL, ex] using h
  | n + 1, d, hn, h => by
    have e1 : L.take (n + 1) = L.take n ++ [L.getD n i0_] := by
      rw [List.take_succ_eq_append_getElem (by omega)]
      simp [show n < L.length by omega]
    rcases h1 : exL (L.take n) 0 with _ | r
    · exfalso
      have key : ∀ (A B : List Itm) (d : Int), exL A d = none → exL (A ++ B) d = none := by
        intro A B
        induction A with
        | nil => intro d h; simp [exL] at h
        | cons i t ih =>
          intro d h
          simp only [exL, List.cons_append] at h ⊢
          split at h
          · rename_i hc
            rw [if_pos hc]
            exact ih _ h
          · rename_i hc
            rw [if_neg hc]
      rw [e1, key _ _ _ h1] at h
      cases h
    · have h2 := exL_ex L n r (by omega) h1
      rw [e1, exL_app _ _ _ _ h1] at h
      simp only [exL] at h
      rw [ex, h2]
      simp only
      split at h
      · rename_i hc
        rw [if_pos hc]
        simpa using h
      · cases h
/-- The cells of n items that leave d values. -/
def Ied (d : Int) (n : Nat) (xs : List Value) : Prop := 0 ≤ d ∧ ∃ L : List Itm, L.length = n ∧ xs = L.flatMap ci3 ∧ exL L 0 = some d
theorem Ied.len {d : Int} {n : Nat} {xs : List Value} (h : Ied d n xs) : xs.length = n * 3 := by
  obtain ⟨-, L, rfl, rfl, -⟩ := h
  induction L with
  | nil => rfl
  | cons i t ih => simp only [List.flatMap_cons, List.length_append, ih, List.length_cons, ci3, List.length_nil]; omega
theorem Ied.cells1 {d : Int} {n : Nat} {xs : List Value} (h : Ied d n xs) : ∀ u ∈ xs, u.oneCell' = true := fun u hu => by
  obtain ⟨-, L, -, rfl, -⟩ := h
  obtain ⟨i, -, hi⟩ := List.mem_flatMap.1 hu
  simp only [ci3, List.mem_cons, List.not_mem_nil, or_false] at hi
  rcases hi with rfl | rfl | rfl <;> rfl
theorem Ied.app {d d' : Int} {n m : Nat} {xs ys : List Value} (h : Ied d n xs) (k : Ied d' m ys) : Ied (d + d') (n + m) (xs ++ ys) := by
  obtain ⟨h0, L, rfl, rfl, h1⟩ := h
  obtain ⟨k0, M, rfl, rfl, k1⟩ := k
  refine ⟨by omega, L ++ M, by simp, by simp, ?_⟩
  rw [exL_app _ _ _ _ h1]
  have := exL_up M 0 d' d h0 k1
  rw [Int.zero_add, Int.add_comm] at this
  exact this
theorem Ied.op {d : Int} {n : Nat} {xs : List Value} (h : Ied d n xs) (x y : Int) (s : ByteArray) (ho : okItem x y s = true) (ha : arity x ≤ d) : Ied (d + (1 - arity x)) (n + 1) (xs ++ [.int .i64 x, .int .i64 y, .string s]) := by
  obtain ⟨h0, L, rfl, rfl, h1⟩ := h
  refine ⟨by have := arity_two x; omega, L ++ [⟨x, y, s⟩], by simp, by simp [ci3], ?_⟩
  rw [exL_app _ _ _ _ h1]
  simp [exL, ho, ha]
theorem Ied.one (o m : Int) (s : ByteArray) (h : okItem o m s = true) (ha : arity o = 0) : Ied 1 1 [.int .i64 o, .int .i64 m, .string s] := by
  refine ⟨by omega, [⟨o, m, s⟩], rfl, rfl, ?_⟩
  simp [exL, h, ha]
/-- A row of items of one's own lies there. -/
theorem ie_own {w : World} {base e g n cap : Nat} {xs : List Value} (h : w.ownsRow base e 3 (.slice (some ⟨g, 0, none⟩) n cap) n xs) (hx : Ied 1 n xs) (h1 : 1 ≤ n) (hn : n ≤ 15) : Ie w (some ⟨g, 0, none⟩) n := by
  obtain ⟨-, L, hl, rfl, he⟩ := hx
  have hex := exL_ex L n 1 (by omega) (by rw [List.take_of_length_le (by omega)]; exact he)
  have hc := h.cells (g := g) rfl
  have get : ∀ (L : List Itm) k, k < L.length → (L.flatMap ci3)[k * 3]? = some (.int .i64 (L.getD k i0_).o) ∧ (L.flatMap ci3)[k * 3 + 1]? = some (.int .i64 (L.getD k i0_).m) ∧ (L.flatMap ci3)[k * 3 + 2]? = some (.string (L.getD k i0_).s) := by
    intro L
    induction L with
    | nil => intro k hk; simp at hk
    | cons i t ih =>
      intro k hk
      rcases k with _ | k
      · exact ⟨rfl, rfl, rfl⟩
      · obtain ⟨a0, a1, a2⟩ := ih k (by simpa using hk)
        have sh : ∀ j, ((i :: t).flatMap ci3)[j + 3]? = (t.flatMap ci3)[j]? := fun j => by
          rw [List.flatMap_cons, List.getElem?_append_right (by simp [ci3])]
          simp [ci3]
        refine ⟨?_, ?_, ?_⟩
        · rw [show (k + 1) * 3 = k * 3 + 3 by omega, sh]; simpa using a0
        · rw [show (k + 1) * 3 + 1 = k * 3 + 1 + 3 by omega, sh]; simpa using a1
        · rw [show (k + 1) * 3 + 2 = k * 3 + 2 + 3 by omega, sh]; simpa using a2
  refine ⟨fun k => L.getD k i0_, fun k hk => ?_, ?_, hn⟩
  · obtain ⟨a0, a1, a2⟩ := get L k (by omega)
    have hsz := ex_ok hex k hk
    refine ⟨g, 0, rfl, ?_, ?_, ?_, by show (L.getD k i0_).s.size ≤ _; omega⟩
    · rw [Nat.zero_add]; have := hc _ _ a0; rwa [addj] at this
    · rw [Nat.zero_add]; have := hc _ _ a1; rwa [addj] at this
    · rw [Nat.zero_add]; have := hc _ _ a2; rwa [addj] at this
  · simp only [okWhere, okExp, hex, Bool.or_eq_true, decide_eq_true_eq, Bool.and_eq_true]
    exact Or.inr ⟨by simp [btw]; omega, trivial⟩
/-- The cells of n items. -/
def Its (n : Nat) (xs : List Value) : Prop := xs.length = n * 3 ∧ ∀ k, k < n → ∃ (o m : Int) (s : ByteArray), xs[k * 3]? = some (.int .i64 o) ∧ xs[k * 3 + 1]? = some (.int .i64 m) ∧ xs[k * 3 + 2]? = some (.string s) ∧ okValue o m s = true
theorem Its.one (o m : Int) (s : ByteArray) (hs : okValue o m s = true) : Its 1 [.int .i64 o, .int .i64 m, .string s] := ⟨rfl, fun k hk => by
  obtain rfl : k = 0 := by omega
  exact ⟨o, m, s, rfl, rfl, rfl, hs⟩⟩
theorem Its.app {n m : Nat} {xs ys : List Value} (h : Its n xs) (k : Its m ys) : Its (n + m) (xs ++ ys) := ⟨by rw [List.length_append, h.1, k.1]; omega, fun j hj => by
  have h1 := h.1
  by_cases hjn : j < n
  · obtain ⟨o, q, s, e0, e1, e2, hs⟩ := h.2 j hjn
    refine ⟨o, q, s, ?_, ?_, ?_, hs⟩
    · rw [List.getElem?_append_left (by omega)]; exact e0
    · rw [List.getElem?_append_left (by omega)]; exact e1
    · rw [List.getElem?_append_left (by omega)]; exact e2
  · obtain ⟨o, q, s, e0, e1, e2, hs⟩ := k.2 (j - n) (by omega)
    refine ⟨o, q, s, ?_, ?_, ?_, hs⟩
    · rw [List.getElem?_append_right (by omega), ← e0]; congr 1; omega
    · rw [List.getElem?_append_right (by omega), ← e1]; congr 1; omega
    · rw [List.getElem?_append_right (by omega), ← e2]; congr 1; omega⟩
/-- A row of items of one's own lies there. -/
theorem it_own {w : World} {base e g n cap : Nat} {xs : List Value} (h : w.ownsRow base e 3 (.slice (some ⟨g, 0, none⟩) n cap) n xs) (hx : Its n xs) : It w (some ⟨g, 0, none⟩) n := fun k hk => by
  obtain ⟨o, m, s, e0, e1, e2, hs⟩ := hx.2 k hk
  have hc := h.cells (g := g) rfl
  refine ⟨g, 0, o, m, s, rfl, ?_, ?_, ?_, hs⟩
  · rw [Nat.zero_add]; have := hc _ _ e0; rwa [addj] at this
  · rw [Nat.zero_add]; have := hc _ _ e1; rwa [addj] at this
  · rw [Nat.zero_add]; have := hc _ _ e2; rwa [addj] at this
def pb : Nat → Nat
  | 0 => 5
  | f + 1 => 5 + 2 * pb f
def nb : Nat → Nat
  | 0 => 1
  | f + 1 => 2 * nb f + 1
theorem co_gr {w w' : World} {a : Option Addr} {n g : Nat} (h : Co w a n) (hg : w.grownBy w' (some g)) (ha : ∀ b off, a = some ⟨b, off, none⟩ → b ≠ g) : Co w' a n := fun k hk => by
  obtain ⟨b, off, m, s, e, h0, h1, hs⟩ := h k hk
  exact ⟨b, off, m, s, e, keepG hg h0 (fun e' => ha b off e (Option.some.inj e')), keepG hg h1 (fun e' => ha b off e (Option.some.inj e')), hs⟩
theorem Cu.al {w : World} {g B : Nat} {ca : Option Addr} {cn cc z s : Nat} (h : Cu w g B ca cn cc z s) (hB : B ≤ w.heap.size) (o : Obj) : Cu (w.alloc o) g B ca cn cc z s := h.gr (galloc w o none) (fun _ h => by cases h) hB
theorem own1 (w : World) (base : Nat) (o m : Int) (t : ByteArray) (hb : base ≤ w.heap.size) : (w.alloc (.cells #[.int .i64 o, .int .i64 m, .string t] 74)).ownsRow base 74 3 (.slice (some ⟨w.heap.size, 0, none⟩) 1 1) 1 [.int .i64 o, .int .i64 m, .string t] :=
  World.ownsRow_lit w #[.int .i64 o, .int .i64 m, .string t] 1 hb (by simp [maxLen]) rfl
theorem own2 (w : World) (Z : Obj) (base : Nat) (o m : Int) (t : ByteArray) (hb : base ≤ w.heap.size) : ((w.alloc Z).alloc (.cells #[.int .i64 o, .int .i64 m, .string t] 74)).ownsRow base 74 3 (.slice (some ⟨w.heap.size + 1, 0, none⟩) 1 1) 1 [.int .i64 o, .int .i64 m, .string t] := by
  have h := own1 (w.alloc Z) base o m t (by simp; omega)
  simpa using h
theorem Its.cells1 {n : Nat} {xs : List Value} (h : Its n xs) : ∀ u ∈ xs, u.oneCell' = true := fun u hu => by
  obtain ⟨i, hi, rfl⟩ := List.mem_iff_getElem.1 hu
  have hl := h.1
  obtain ⟨o, m, s, e0, e1, e2, -⟩ := h.2 (i / 3) (by omega)
  have hm := Nat.mod_lt i (show 0 < 3 by omega)
  have hi' : xs[i]? = some xs[i] := List.getElem?_eq_getElem hi
  rcases (show i = i / 3 * 3 ∨ i = i / 3 * 3 + 1 ∨ i = i / 3 * 3 + 2 by omega) with e | e | e
  · rw [← e, hi'] at e0
    rw [Option.some.inj e0]
    rfl
  · rw [← e, hi'] at e1
    rw [Option.some.inj e1]
    rfl
  · rw [← e, hi'] at e2
    rw [Option.some.inj e2]
    rfl
theorem pb0 : pb 0 = 5 := rfl
theorem pb1 (f : Nat) : pb (f + 1) = 5 + 2 * pb f := rfl
theorem nb1 (f : Nat) : nb (f + 1) = 2 * nb f + 1 := rfl
theorem nb_pos : ∀ f, 1 ≤ nb f
  | 0 => by show 1 ≤ 1; omega
  | f + 1 => by rw [nb1]; omega
theorem okI_col {s : ByteArray} {m : Int} (h : okCol s m = true) : okItem 3 0 s = true := by
  simp only [okCol, Bool.and_eq_true] at h
  simp [okItem, h.1]
theorem okI_int {x : Int} (h : isNum x = true) : okItem 1 x ⟨#[]⟩ = true := by
  have z : (⟨#[]⟩ : ByteArray).size = 0 := rfl
  simp [okItem, h, z]
theorem okI_txt {s : ByteArray} (h : okText s = true) : okItem 2 0 s = true := by simp [okItem, h]
theorem okI_op {x : Int} (h : btw x 4 13 = true) : okItem x 0 ⟨#[]⟩ = true := by
  have z : (⟨#[]⟩ : ByteArray).size = 0 := rfl
  simp [okItem, h, z]
set_option maxRecDepth 20000 in
set_option maxHeartbeats 4000000 in
theorem drawExp_leaf (g B : Nat) (ca : Option Addr) (cn cc : Nat) (d : Int) (z s : Nat) (a : Option Addr) (n c : Nat) (kd : Int) (w : World) (hd : d = 3) (h : Cu w g B ca cn cc z s) (hz : z ≤ 100000000000) (hB : B ≤ w.heap.size) (hco : Co w a n) (ha : ∀ b off, a = some ⟨b, off, none⟩ → b ≠ g) (hn1 : 1 ≤ n) (hn : n ≤ 100) :
    Calls Try.prog 31 #[.pointer (some ⟨g, 0, none⟩), .slice a n c, .int .i64 kd, .int .i64 d] w fun e w' => ∃ (m gz cap z' s' : Nat) (xs : List Value), e = .returned (.slice (some ⟨gz, 0, none⟩) m cap) ∧ 1 ≤ m ∧ m ≤ nb 0 ∧ Ied 1 m xs ∧ w'.ownsRow w.heap.size 74 3 (.slice (some ⟨gz, 0, none⟩) m cap) m xs ∧ z' ≤ z + pb 0 ∧ Cu w' g B ca cn cc z' s' ∧ w.grownBy w' (some g) := by
  subst hd
  have hlt := h.lt
  have hC1 := h
  have hG1 := g0 w (some g)
  obtain ⟨z1, hz1e⟩ : ∃ z1, z = z1 := ⟨_, rfl⟩
  obtain ⟨s1, hs1e⟩ : ∃ s1, s = s1 := ⟨_, rfl⟩
  rw [hz1e, hs1e] at hC1
  go_enter Try.func31, Try.ntmps31
  go_wp2
  go_loopw [8, 9, 10] (fun _ i _ wr => ∃ j zz ss : Nat, j ≤ 3 ∧ i = .int .i64 j ∧ Cu wr g B ca cn cc zz ss ∧ zz ≤ z1 + j ∧ w.grownBy wr (some g)) (fun _ i _ _ => 3 - (intOf i).toNat)
  case atStart => exact ⟨0, z1, s1, by omega, rfl, hC1, by omega, hG1⟩
  case round =>
    obtain ⟨j, zz, ss, hj, rfl, hC, hzz, hG⟩ := hrel
    have hsr := hG.size
    by_cases hj3 : j < 3
    · go_wp2_with (go_at_call 16; refine (pick_any g B ca cn cc zz ss _ hC (by omega) _ (by omega)).mono ?_; rintro e w2 ⟨r, z2, s2, rfl, hr0, hr1, -, hz2, hC2, hG2⟩; obtain ⟨k, rfl⟩ : ∃ k : Nat, r = k := ⟨r.toNat, by omega⟩; have hG3 := gtrans hG hG2; have hs3 := hG3.size; obtain ⟨b, off, m, S, rfl, c0, c1, hS⟩ := co_gr hco hG3 ha k (by omega))
      · go_ret
        exact ⟨1, _, _, z2, s2, _, rfl, by omega, by show 1 ≤ 1; omega, Ied.one _ _ _ (okI_col hS) rfl, own2 w2 _ w.heap.size _ _ _ (by omega), by rw [pb0]; omega, (hC2.al (by omega) _).al (by simp; omega) _, gtrans (gtrans hG3 (galloc _ _ _)) (galloc _ _ _)⟩
      · go_roundw
        case rel => exact ⟨j + 1, z2, s2, by omega, by go_num, hC2.al (by omega) _, by omega, gtrans hG3 (galloc _ _ _)⟩
        case measure => simp [intOf]; omega
    · go_wp2_with (first | (go_at_call 41; refine (drawInt_any g B ca cn cc zz ss _ hC (by omega) (by omega)).mono ?_; rintro e w2 ⟨x, z2, s2, rfl, hxn, hz2, hC2, hG2⟩; have hG3 := gtrans hG hG2; have hs3 := hG3.size) | (go_at_call 42; refine (drawText_any g B ca cn cc zz ss _ hC (by omega) (by omega)).mono ?_; rintro e w2 ⟨T, z2, s2, rfl, hT, hz2, hC2, hG2⟩; have hG3 := gtrans hG hG2; have hs3 := hG3.size))
      · go_ret
        exact ⟨1, _, _, z2, s2, _, rfl, by omega, by show 1 ≤ 1; omega, Ied.one _ _ _ (okI_int hxn) rfl, own1 w2 w.heap.size _ _ _ (by omega), by rw [pb0]; omega, hC2.al (by omega) _, gtrans hG3 (galloc _ _ _)⟩
      · go_ret
        exact ⟨1, _, _, z2, s2, _, rfl, by omega, by show 1 ≤ 1; omega, Ied.one _ _ _ (okI_txt hT) rfl, own1 w2 w.heap.size _ _ _ (by omega), by rw [pb0]; omega, hC2.al (by omega) _, gtrans hG3 (galloc _ _ _)⟩
end Go.Proofs.Ytlilmbeehmjpkaa
