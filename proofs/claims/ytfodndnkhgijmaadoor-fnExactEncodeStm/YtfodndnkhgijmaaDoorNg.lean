/-
  Expressions: the program's nodes: made, asked.
-/
import Derived.Test.YtfodndnkhgijmaaDoorNf
namespace Go.Proofs.YtfodndnkhgijmaaDoor
open Go.RowKit Go.Maps Go.WideMaps
/-- The program's nodes. -/
structure Tr where
  ty : TypeId
  fn : Nat
  pay : Value
  ok : Bool
def Tr.num (n : Int) : Tr := ⟨182, 148, .int .i64 n, isNum n⟩
def Tr.txt (s : ByteArray) : Tr := ⟨183, 149, .string s, okText s⟩
def Tr.col (s : ByteArray) : Tr := ⟨184, 150, .string s, okName s⟩
def Tr.one (o : Int) (t : Tr) : Tr := ⟨186, 151, .agg #[.int .i64 o, .iface t.ty t.pay], t.ok⟩
def Tr.two (o : Int) (a b : Tr) : Tr := ⟨188, 152, .agg #[.int .i64 o, .iface a.ty a.pay, .iface b.ty b.pay], a.ok && b.ok⟩
def Tr.fit (t : Tr) : Prop := (∀ w, (method 318 t.ty t.pay "loop.example/s02884/impl.fits").run Tryd.prog w = .ok (t.fn, t.pay) w) ∧ (∀ args w, (callFunc t.fn args).run Tryd.prog w = .ok (.enter t.fn args) w) ∧ ∀ b w, KwAt w b → Calls Tryd.prog t.fn #[t.pay, .map (some b)] w fun e w' => e = .returned (.bool t.ok) ∧ Below w.heap.size w w'
set_option maxRecDepth 20000 in
set_option maxHeartbeats 2000000 in
theorem fit_num (n : Int) : (Tr.num n).fit := by
  refine ⟨fun w => by kernel_rfl, fun args w => by kernel_rfl, fun b w _ => ?_⟩
  show Calls Tryd.prog 148 #[.int .i64 n, .map (some b)] w fun e w' => e = .returned (.bool (isNum n)) ∧ Below w.heap.size w w'
  go_enter Tryd.func148, Tryd.ntmps148
  go_wp2_with (go_at_call 95; refine (iNumber _ _).mono ?_; rintro e w1 ⟨rfl, rfl⟩)
  go_ret
  exact ⟨rfl, Below.refl _ _⟩
set_option maxRecDepth 20000 in
set_option maxHeartbeats 2000000 in
theorem fit_txt (s : ByteArray) (hs : s.size ≤ 1048576) : (Tr.txt s).fit := by
  refine ⟨fun w => by kernel_rfl, fun args w => by kernel_rfl, fun b w _ => ?_⟩
  show Calls Tryd.prog 149 #[.string s, .map (some b)] w fun e w' => e = .returned (.bool (okText s)) ∧ Below w.heap.size w w'
  go_enter Tryd.func149, Tryd.ntmps149
  go_wp2_with (go_at_call 96; refine (iText _ _ hs).mono ?_; rintro e w1 ⟨rfl, rfl⟩)
  go_ret
  exact ⟨rfl, Below.refl _ _⟩
set_option maxRecDepth 20000 in
set_option maxHeartbeats 2000000 in
theorem fit_col (s : ByteArray) (hs : s.size ≤ 1048576) : (Tr.col s).fit := by
  refine ⟨fun w => by kernel_rfl, fun args w => by kernel_rfl, fun b w hK => ?_⟩
  show Calls Tryd.prog 150 #[.string s, .map (some b)] w fun e w' => e = .returned (.bool (okName s)) ∧ Below w.heap.size w w'
  go_enter Tryd.func150, Tryd.ntmps150
  go_wp2_with (go_at_call 40; refine (iName b _ _ hK hs).mono ?_; rintro e w1 ⟨rfl, hb⟩)
  go_ret
  exact ⟨rfl, hb⟩
set_option maxRecDepth 20000 in
set_option maxHeartbeats 2000000 in
theorem fit_one (o : Int) {p : Tr} (h : p.fit) : (Tr.one o p).fit := by
  refine ⟨fun w => by kernel_rfl, fun args w => by kernel_rfl, fun b w hK => ?_⟩
  show Calls Tryd.prog 151 #[.agg #[.int .i64 o, .iface p.ty p.pay], .map (some b)] w fun e w' => e = .returned (.bool p.ok) ∧ Below w.heap.size w w'
  have m1 := h.1
  have n1 := h.2.1
  have hp := h.2.2 b
  have hK1 := hK.later (bal w (.cells #[.int .i64 o, .iface p.ty p.pay] 186))
  go_enter Tryd.func151, Tryd.ntmps151
  go_wp2_with (refine (hp _ hK1).mono ?_; rintro e w1 ⟨rfl, hb⟩)
  go_ret
  exact ⟨rfl, bal2 hb⟩
set_option maxRecDepth 20000 in
set_option maxHeartbeats 2000000 in
theorem fit_two (o : Int) {p q : Tr} (h : p.fit) (h2 : q.fit) : (Tr.two o p q).fit := by
  refine ⟨fun w => by kernel_rfl, fun args w => by kernel_rfl, fun b w hK => ?_⟩
  show Calls Tryd.prog 152 #[.agg #[.int .i64 o, .iface p.ty p.pay, .iface q.ty q.pay], .map (some b)] w fun e w' => e = .returned (.bool (p.ok && q.ok)) ∧ Below w.heap.size w w'
  have m1 := h.1
  have n1 := h.2.1
  have m2 := h2.1
  have n2 := h2.2.1
  have hp := h.2.2 b
  have hq := h2.2.2 b
  have hK1 := hK.later (bal w (.cells #[.int .i64 o, .iface p.ty p.pay, .iface q.ty q.pay] 188))
  go_enter Tryd.func152, Tryd.ntmps152
  go_wp2_with (first | (have _h := hb; refine (hq _ (hK1.later hb)).mono ?_; rintro e w2 ⟨rfl, hb2⟩) | (refine (hp _ hK1).mono ?_; rintro e w1 ⟨rfl, hb⟩; obtain ⟨d0, d1, d2⟩ := kept3 hb; rcases ho : p.ok))
  · go_ret
    exact ⟨retB (by simp [ho]), bal2 hb⟩
  · go_ret
    exact ⟨retB (by simp [ho]), bal2 (bstep hb hb2)⟩
theorem fits_any (b : Nat) (t : Tr) (w : World) (h : t.fit) (hK : KwAt w b) : Calls Tryd.prog t.fn #[t.pay, .map (some b)] w fun e w' => e = .returned (.bool t.ok) ∧ Below w.heap.size w w' := h.2.2 b w hK
end Go.Proofs.YtfodndnkhgijmaaDoor
