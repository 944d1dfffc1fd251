/-
  Expressions: the program's nodes: made, asked.
-/
import Derived.Test.YtnbgdfhfmbgbhaaGreatDoorNf
import Derived.Test.YtnbgdfhfmbgbhaaGreatDoorQb
namespace Go.Proofs.YtnbgdfhfmbgbhaaGreatDoor
open Go.RowKit Go.Maps Go.WideMaps
/-- The sign between two operands. -/
def sgn (o : Int) : ByteArray := if o = 4 then ⟨#[43]⟩ else if o = 5 then ⟨#[45]⟩ else if o = 6 then ⟨#[42]⟩ else if o = 7 then ⟨#[61]⟩ else if o = 8 then ⟨#[60]⟩ else if o = 9 then ⟨#[97, 110, 100]⟩ else if o = 10 then ⟨#[111, 114]⟩ else ⟨#[124, 124]⟩
def sgn3 (o : Int) : ByteArray := ⟨#[32]⟩ ++ sgn o ++ ⟨#[32]⟩
structure Tr where
  ty : TypeId
  fn : Nat
  pay : Value
  ok : Bool
  sql : ByteArray
def Tr.num (n : Int) : Tr := ⟨156, 191, .int .i64 n, isNum n, decB n⟩
def Tr.txt (s : ByteArray) : Tr := ⟨157, 192, .string s, okText s, quoB s⟩
def Tr.col (s : ByteArray) : Tr := ⟨158, 193, .string s, okName s, s⟩
def Tr.one (o : Int) (t : Tr) : Tr := ⟨160, 194, .agg #[.int .i64 o, .iface t.ty t.pay], t.ok, if o = 13 then ⟨#[108, 101, 110, 40]⟩ ++ t.sql ++ ⟨#[41]⟩ else ⟨#[40, 110, 111, 116, 32]⟩ ++ t.sql ++ ⟨#[41]⟩⟩
def Tr.two (o : Int) (a b : Tr) : Tr := ⟨162, 195, .agg #[.int .i64 o, .iface a.ty a.pay, .iface b.ty b.pay], a.ok && b.ok, ⟨#[40]⟩ ++ a.sql ++ sgn3 o ++ b.sql ++ ⟨#[41]⟩⟩
theorem sqlOne (o : Int) (t : Tr) : (Tr.one o t).sql = if o = 13 then ⟨#[108, 101, 110, 40]⟩ ++ t.sql ++ ⟨#[41]⟩ else ⟨#[40, 110, 111, 116, 32]⟩ ++ t.sql ++ ⟨#[41]⟩ := rfl
theorem sqlTwo (o : Int) (a b : Tr) : (Tr.two o a b).sql = ⟨#[40]⟩ ++ a.sql ++ sgn3 o ++ b.sql ++ ⟨#[41]⟩ := rfl
def Tr.fit (t : Tr) : Prop := (∀ w, (method 326 t.ty t.pay "loop.example/s02884/impl.fits").run Tryz.prog w = .ok (t.fn, t.pay) w) ∧ (∀ args w, (callFunc t.fn args).run Tryz.prog w = .ok (.enter t.fn args) w) ∧ ∀ b w, KwAt w b → Calls Tryz.prog t.fn #[t.pay, .map (some b)] w fun e w' => e = .returned (.bool t.ok) ∧ Below w.heap.size w w'
set_option maxRecDepth 20000 in
set_option maxHeartbeats 2000000 in
theorem fit_num (n : Int) : (Tr.num n).fit := by
  refine ⟨fun w => by kernel_rfl, fun args w => by kernel_rfl, fun b w _ => ?_⟩
  show Calls Tryz.prog 191 #[.int .i64 n, .map (some b)] w fun e w' => e = .returned (.bool (isNum n)) ∧ Below w.heap.size w w'
  go_enter Tryz.func191, Tryz.ntmps191
  go_wp2_with (go_at_call 127; refine (iNumber _ _).mono ?_; rintro e w1 ⟨rfl, rfl⟩)
  go_ret
  exact ⟨rfl, Below.refl _ _⟩
set_option maxRecDepth 20000 in
set_option maxHeartbeats 2000000 in
theorem fit_txt (s : ByteArray) (hs : s.size ≤ 1048576) : (Tr.txt s).fit := by
  refine ⟨fun w => by kernel_rfl, fun args w => by kernel_rfl, fun b w _ => ?_⟩
  show Calls Tryz.prog 192 #[.string s, .map (some b)] w fun e w' => e = .returned (.bool (okText s)) ∧ Below w.heap.size w w'
  go_enter Tryz.func192, Tryz.ntmps192
  go_wp2_with (go_at_call 128; refine (iText _ _ hs).mono ?_; rintro e w1 ⟨rfl, rfl⟩)
  go_ret
  exact ⟨rfl, Below.refl _ _⟩
set_option maxRecDepth 20000 in
set_option maxHeartbeats 2000000 in
theorem fit_col (s : ByteArray) (hs : s.size ≤ 1048576) : (Tr.col s).fit := by
  refine ⟨fun w => by kernel_rfl, fun args w => by kernel_rfl, fun b w hK => ?_⟩
  show Calls Tryz.prog 193 #[.string s, .map (some b)] w fun e w' => e = .returned (.bool (okName s)) ∧ Below w.heap.size w w'
  go_enter Tryz.func193, Tryz.ntmps193
  go_wp2_with (go_at_call 95; refine (iName b _ _ hK hs).mono ?_; rintro e w1 ⟨rfl, hb⟩)
  go_ret
  exact ⟨rfl, hb⟩
set_option maxRecDepth 20000 in
set_option maxHeartbeats 2000000 in
theorem fit_one (o : Int) {p : Tr} (h : p.fit) : (Tr.one o p).fit := by
  refine ⟨fun w => by kernel_rfl, fun args w => by kernel_rfl, fun b w hK => ?_⟩
  show Calls Tryz.prog 194 #[.agg #[.int .i64 o, .iface p.ty p.pay], .map (some b)] w fun e w' => e = .returned (.bool p.ok) ∧ Below w.heap.size w w'
  have m1 := h.1
  have n1 := h.2.1
  have hp := h.2.2 b
  have hK1 := hK.later (bal w (.cells #[.int .i64 o, .iface p.ty p.pay] 160))
  go_enter Tryz.func194, Tryz.ntmps194
  go_wp2_with (refine (hp _ hK1).mono ?_; rintro e w1 ⟨rfl, hb⟩)
  go_ret
  exact ⟨rfl, bal2 hb⟩
set_option maxRecDepth 20000 in
set_option maxHeartbeats 2000000 in
theorem fit_two (o : Int) {p q : Tr} (h : p.fit) (h2 : q.fit) : (Tr.two o p q).fit := by
  refine ⟨fun w => by kernel_rfl, fun args w => by kernel_rfl, fun b w hK => ?_⟩
  show Calls Tryz.prog 195 #[.agg #[.int .i64 o, .iface p.ty p.pay, .iface q.ty q.pay], .map (some b)] w fun e w' => e = .returned (.bool (p.ok && q.ok)) ∧ Below w.heap.size w w'
  have m1 := h.1
  have n1 := h.2.1
  have m2 := h2.1
  have n2 := h2.2.1
  have hp := h.2.2 b
  have hq := h2.2.2 b
  have hK1 := hK.later (bal w (.cells #[.int .i64 o, .iface p.ty p.pay, .iface q.ty q.pay] 162))
  go_enter Tryz.func195, Tryz.ntmps195
  go_wp2_with (first | (have _h := hb; refine (hq _ (hK1.later hb)).mono ?_; rintro e w2 ⟨rfl, hb2⟩) | (refine (hp _ hK1).mono ?_; rintro e w1 ⟨rfl, hb⟩; obtain ⟨d0, d1, d2⟩ := kept3 hb; rcases ho : p.ok))
  · go_ret
    exact ⟨retB (by simp [ho]), bal2 hb⟩
  · go_ret
    exact ⟨retB (by simp [ho]), bal2 (bstep hb hb2)⟩
theorem fits_any (b : Nat) (t : Tr) (w : World) (h : t.fit) (hK : KwAt w b) : Calls Tryz.prog t.fn #[t.pay, .map (some b)] w fun e w' => e = .returned (.bool t.ok) ∧ Below w.heap.size w w' := h.2.2 b w hK
end Go.Proofs.YtnbgdfhfmbgbhaaGreatDoor
