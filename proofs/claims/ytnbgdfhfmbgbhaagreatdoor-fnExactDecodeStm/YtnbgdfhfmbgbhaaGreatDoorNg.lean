/-
  Expressions: the program's nodes: made, asked.
-/
import Derived.Test.YtnbgdfhfmbgbhaaGreatDoorNf
namespace Go.Proofs.YtnbgdfhfmbgbhaaGreatDoor
open Go.RowKit Go.Maps Go.WideMaps
/-- The program's nodes. -/
inductive Tr where
  | num (n : Int)
  | txt (s : ByteArray)
  | col (s : ByteArray)
  | one (o : Int) (t : Tr)
  | two (o : Int) (a b : Tr)
def Tr.ty : Tr → TypeId
  | .num _ => 156
  | .txt _ => 157
  | .col _ => 158
  | .one _ _ => 160
  | .two _ _ _ => 162
def Tr.fn : Tr → Nat
  | .num _ => 191
  | .txt _ => 192
  | .col _ => 193
  | .one _ _ => 194
  | .two _ _ _ => 195
def Tr.pay : Tr → Value
  | .num n => .int .i64 n
  | .txt s => .string s
  | .col s => .string s
  | .one o t => .agg #[.int .i64 o, .iface t.ty t.pay]
  | .two o a b => .agg #[.int .i64 o, .iface a.ty a.pay, .iface b.ty b.pay]
def Tr.ok : Tr → Bool
  | .num n => isNum n
  | .txt s => okText s
  | .col s => okName s
  | .one _ t => t.ok
  | .two _ a b => a.ok && b.ok
def Tr.fit : Tr → Prop
  | .num _ => True
  | .txt s => s.size ≤ 1048576
  | .col s => s.size ≤ 1048576
  | .one _ t => t.fit
  | .two _ a b => a.fit ∧ b.fit
set_option maxRecDepth 20000 in
set_option maxHeartbeats 2000000 in
theorem fitsNum (n : Int) (b : Nat) (w : World) : Calls Tryz.prog 191 #[.int .i64 n, .map (some b)] w fun e w' => e = .returned (.bool (isNum n)) ∧ Below w.heap.size w w' := by
  go_enter Tryz.func191, Tryz.ntmps191
  go_wp2_with (go_at_call 127; refine (iNumber _ _).mono ?_; rintro e w1 ⟨rfl, rfl⟩)
  go_ret
  exact ⟨rfl, Below.refl _ _⟩
theorem meth (t : Tr) (w : World) : (method 326 t.ty t.pay "loop.example/s02884/impl.fits").run Tryz.prog w = .ok (t.fn, t.pay) w := by
  cases t <;> kernel_rfl
theorem ents (t : Tr) (args : Array Value) (w : World) : (callFunc t.fn args).run Tryz.prog w = .ok (.enter t.fn args) w := by
  cases t <;> kernel_rfl
set_option maxRecDepth 20000 in
set_option maxHeartbeats 2000000 in
theorem fitsTxt (s : ByteArray) (b : Nat) (w : World) (hs : s.size ≤ 1048576) : Calls Tryz.prog 192 #[.string s, .map (some b)] w fun e w' => e = .returned (.bool (okText s)) ∧ Below w.heap.size w w' := by
  go_enter Tryz.func192, Tryz.ntmps192
  go_wp2_with (go_at_call 128; refine (iText _ _ hs).mono ?_; rintro e w1 ⟨rfl, rfl⟩)
  go_ret
  exact ⟨rfl, Below.refl _ _⟩
set_option maxRecDepth 20000 in
set_option maxHeartbeats 2000000 in
theorem fitsCol (s : ByteArray) (b : Nat) (w : World) (hK : KwAt w b) (hs : s.size ≤ 1048576) : Calls Tryz.prog 193 #[.string s, .map (some b)] w fun e w' => e = .returned (.bool (okName s)) ∧ Below w.heap.size w w' := by
  go_enter Tryz.func193, Tryz.ntmps193
  go_wp2_with (go_at_call 95; refine (iName b _ _ hK hs).mono ?_; rintro e w1 ⟨rfl, hb⟩)
  go_ret
  exact ⟨rfl, hb⟩
set_option maxRecDepth 20000 in
set_option maxHeartbeats 2000000 in
theorem fitsOne (o : Int) (p : Tr) (b : Nat) (w : World) (hK : KwAt w b)
    (hp : ∀ w, KwAt w b → Calls Tryz.prog p.fn #[p.pay, .map (some b)] w fun e w' => e = .returned (.bool p.ok) ∧ Below w.heap.size w w') :
   Calls Tryz.prog 194 #[.agg #[.int .i64 o, .iface p.ty p.pay], .map (some b)] w fun e w' => e = .returned (.bool p.ok) ∧ Below w.heap.size w w' := by
  have m1 := meth p
  have n1 := ents p
  have hK1 := hK.later (bal w (.cells #[.int .i64 o, .iface p.ty p.pay] 160))
  go_enter Tryz.func194, Tryz.ntmps194
  go_wp2_with (refine (hp _ hK1).mono ?_; rintro e w1 ⟨rfl, hb⟩)
  go_ret
  exact ⟨rfl, bal2 hb⟩
set_option maxRecDepth 20000 in
set_option maxHeartbeats 2000000 in
theorem fitsTwo (o : Int) (p q : Tr) (b : Nat) (w : World) (hK : KwAt w b)
    (hp : ∀ w, KwAt w b → Calls Tryz.prog p.fn #[p.pay, .map (some b)] w fun e w' => e = .returned (.bool p.ok) ∧ Below w.heap.size w w')
    (hq : ∀ w, KwAt w b → Calls Tryz.prog q.fn #[q.pay, .map (some b)] w fun e w' => e = .returned (.bool q.ok) ∧ Below w.heap.size w w') :
   Calls Tryz.prog 195 #[.agg #[.int .i64 o, .iface p.ty p.pay, .iface q.ty q.pay], .map (some b)] w fun e w' => e = .returned (.bool (p.ok && q.ok)) ∧ Below w.heap.size w w' := by
  have m1 := meth p
  have n1 := ents p
  have m2 := meth q
  have n2 := ents q
  have hK1 := hK.later (bal w (.cells #[.int .i64 o, .iface p.ty p.pay, .iface q.ty q.pay] 162))
  go_enter Tryz.func195, Tryz.ntmps195
  go_wp2_with (first | (have _h := hb; refine (hq _ (hK1.later hb)).mono ?_; rintro e w2 ⟨rfl, hb2⟩) | (refine (hp _ hK1).mono ?_; rintro e w1 ⟨rfl, hb⟩; obtain ⟨d0, d1, d2⟩ := kept3 hb; rcases ho : p.ok))
  · go_ret
    exact ⟨retB (by simp [ho]), bal2 hb⟩
  · go_ret
    exact ⟨retB (by simp [ho]), bal2 (bstep hb hb2)⟩
theorem fits_any (b : Nat) : ∀ (t : Tr) (w : World), t.fit → KwAt w b → Calls Tryz.prog t.fn #[t.pay, .map (some b)] w fun e w' => e = .returned (.bool t.ok) ∧ Below w.heap.size w w'
  | .num n, w, _, _ => fitsNum n b w
  | .txt s, w, hs, _ => fitsTxt s b w hs
  | .col s, w, hs, hK => fitsCol s b w hK hs
  | .one o t, w, hs, hK => fitsOne o t b w hK fun w hK => fits_any b t w hs hK
  | .two o p q, w, hs, hK => fitsTwo o p q b w hK (fun w hK => fits_any b p w hs.1 hK) (fun w hK => fits_any b q w hs.2 hK)
end Go.Proofs.YtnbgdfhfmbgbhaaGreatDoor
