/-
  A proof's claims: the program's way, a function value that calls itself.
-/
import Derived.Test.YtlbackkjjhpljaaDoorIp
import Derived.Test.YtlbackkjjhpljaaDoorCs
import Derived.Test.YtlbackkjjhpljaaDoorTs
import Derived.RegionCalls
import Derived.Laws.ResultCell
namespace Go.Proofs.YtlbackkjjhpljaaDoor
open Go.RowKit
/-- The function value and what it has caught: the older root, itself, the kind. -/
structure PQ (w : World) (O C K : Nat) (k : Int) (x : ByteArray) : Prop where
  old : w.cell? ⟨O, 0, none⟩ = some (.string x)
  self : w.cell? ⟨C, 0, none⟩ = some (.func (.func 60) #[] #[.pointer (some ⟨O, 0, none⟩), .pointer (some ⟨C, 0, none⟩), .pointer (some ⟨K, 0, none⟩)])
  kind : w.cell? ⟨K, 0, none⟩ = some (.int .i64 k)
theorem PQ.later {w w' : World} {O C K : Nat} {k : Int} {x : ByteArray} (h : PQ w O C K k x) (hb : Below w.heap.size w w') : PQ w' O C K k x := ⟨keep hb h.old, keep hb h.self, keep hb h.kind⟩
set_option maxRecDepth 20000 in
set_option maxHeartbeats 2000000 in
theorem claimProof_begins (k : Int) (X : ByteArray) (O C K : Nat) (m q : Nat) (a : Option Addr) (c : Nat) (w : World) (hq : q ≤ 1048576) (hP : PQ w O C K k X) (t : Bool) (ht : decide (q = 0) = t) :
    Calls Tryd.prog 60 #[.int .i64 m, .int .i64 m, .slice a q c, .bool true, .pointer (some ⟨O, 0, none⟩), .pointer (some ⟨C, 0, none⟩), .pointer (some ⟨K, 0, none⟩)] w fun e w' => e = .returned (.tuple #[.agg #[.string X, .string X], .bool t]) ∧ Below w.heap.size w w' := by
  obtain ⟨p1, p2, p3⟩ := hP.later (below1 w (.cells #[.string (⟨#[]⟩ : ByteArray), .string (⟨#[]⟩ : ByteArray)] 61))
  by_cases h0 : q = 0
  · subst h0
    obtain rfl : true = t := by simpa using ht
    go_enter Tryd.func60, Tryd.ntmps60
    go_wp2
    exact bodyPost_ret (v := .tuple #[.agg #[.string X, .string X], .bool true]) (by simp [results, Tryd.results60, go_sem]) rfl ⟨rfl, below1 _ _⟩
  · obtain rfl : false = t := by simpa [h0] using ht
    have h0' : ¬ (q : Int) = 0 := by omega
    go_enter Tryd.func60, Tryd.ntmps60
    go_wp2
    exact bodyPost_ret (v := .tuple #[.agg #[.string X, .string X], .bool false]) (by simp [results, Tryd.results60, go_sem, h0]) rfl ⟨rfl, below1 _ _⟩
set_option maxRecDepth 20000 in
set_option maxHeartbeats 2000000 in
theorem claimProof_none (O C K : Nat) (m n : Nat) (b : Bool) (hb : ¬ (m = n ∧ b = true)) (a : Option Addr) (c : Nat) (w : World) :
    Calls Tryd.prog 60 #[.int .i64 m, .int .i64 n, .slice a 0 c, .bool b, .pointer (some ⟨O, 0, none⟩), .pointer (some ⟨C, 0, none⟩), .pointer (some ⟨K, 0, none⟩)] w fun e w' => e = .returned (.tuple #[.agg #[.string ⟨#[]⟩, .string ⟨#[]⟩], .bool false]) ∧ Below w.heap.size w w' := by
  by_cases hmn : m = n
  · subst hmn
    obtain rfl : b = false := by simpa using hb
    go_enter Tryd.func60, Tryd.ntmps60
    go_wp2
    exact bodyPost_ret (v := .tuple #[.agg #[.string ⟨#[]⟩, .string ⟨#[]⟩], .bool false]) (by simp [results, Tryd.results60, go_sem]) rfl ⟨rfl, below1 _ _⟩
  · have hmn' : ¬ (m : Int) = n := by omega
    go_enter Tryd.func60, Tryd.ntmps60
    go_wp2
    exact bodyPost_ret (v := .tuple #[.agg #[.string ⟨#[]⟩, .string ⟨#[]⟩], .bool false]) (by simp [results, Tryd.results60, go_sem]) rfl ⟨rfl, below1 _ _⟩
set_option maxRecDepth 20000 in
set_option maxHeartbeats 2000000 in
theorem claimProof_inside (O C K : Nat) (m p : Nat) (a : Option Addr) (c : Nat) (w : World) (S : Nat → ByteArray) (hq : p + 1 ≤ 1048576) (h : Sl w a (p + 1) S) (hc : p + 1 ≤ c) (t : Bool) (ht : decide (p = 0) = t) :
    Calls Tryd.prog 60 #[.int .i64 m, .int .i64 m, .slice a (p + 1 : Nat) c, .bool false, .pointer (some ⟨O, 0, none⟩), .pointer (some ⟨C, 0, none⟩), .pointer (some ⟨K, 0, none⟩)] w fun e w' => e = .returned (.tuple #[.agg #[.string (S p), .string (S p)], .bool t]) ∧ Below w.heap.size w w' := by
  have hS := h.later (below1 w (.cells #[.string (⟨#[]⟩ : ByteArray), .string (⟨#[]⟩ : ByteArray)] 61))
  have m0 : ¬ (p : Int) + 1 = 0 := by omega
  by_cases h0 : p = 0
  · subst h0
    obtain rfl : true = t := by simpa using ht
    go_enter Tryd.func60, Tryd.ntmps60
    go_wp2_with (go_at_call 61; refine (cutLast_any a 0 c S _ hS hc).mono ?_; rintro e w1 ⟨rfl, rfl⟩)
    exact bodyPost_ret (v := .tuple #[.agg #[.string (S 0), .string (S 0)], .bool true]) (by simp [results, Tryd.results60, go_sem]) rfl ⟨rfl, bdrew (below1 _ _) 1⟩
  · obtain rfl : false = t := by simpa [h0] using ht
    have h0' : ¬ (p : Int) = 0 := by omega
    go_enter Tryd.func60, Tryd.ntmps60
    go_wp2_with (go_at_call 61; refine (cutLast_any a p c S _ hS hc).mono ?_; rintro e w1 ⟨rfl, rfl⟩)
    exact bodyPost_ret (v := .tuple #[.agg #[.string (S p), .string (S p)], .bool false]) (by simp [results, Tryd.results60, go_sem, h0]) rfl ⟨rfl, bdrew (below1 _ _) 1⟩
end Go.Proofs.YtlbackkjjhpljaaDoor
