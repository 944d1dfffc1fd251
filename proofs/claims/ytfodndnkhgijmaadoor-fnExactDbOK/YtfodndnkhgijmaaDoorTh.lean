/-
  Tables: the specification's test of a table.
-/
import Derived.Test.YtfodndnkhgijmaaDoorTg
import Derived.Deep.RegionHeld3
namespace Go.Proofs.YtfodndnkhgijmaaDoor
open Go.RowKit Go.Maps Go.WideMaps
/-- A column that is right at its place. -/
def okColAt (C : Nat → Clm) (k : Nat) : Bool := okName (C k).s && isTyp (C k).t && !hasCol C (C k).s k
/-- A row that is right at its place. -/
def okRowAt (n : Nat) (C : Nat → Clm) (m : Nat → Nat) (R : Nat → Nat → Itm) (i : Nat) : Bool :=
  decide (m i = n) && allN (m i) (fun j => rightB (R i j).o (R i j).m (R i j).s (C j).t) && (decide (i = 0) || befV (R (i - 1) 0).m (R (i - 1) 0).s (R i 0).m (R i 0).s)
def okTab (s : ByteArray) (n : Nat) (C : Nat → Clm) (r : Nat) (m : Nat → Nat) (R : Nat → Nat → Itm) : Bool :=
  okName s && btw n 1 20 && decide (r ≤ 1000) && allN n (okColAt C) && allN r (okRowAt n C m R)
theorem CL.take {w : World} {a : Option Addr} {n k : Nat} {C : Nat → Clm} (h : CL w a n C) (hk : k ≤ n) : CL w a k C := fun j hj => h j (by omega)
theorem noTab1 {s : ByteArray} {n : Nat} {C : Nat → Clm} {r : Nat} {m : Nat → Nat} {R : Nat → Nat → Itm} {k : Nat} (hk : k < n) (h : okColAt C k = false) : okTab s n C r m R = false := by
  unfold okTab
  rw [allN_false hk h]
  simp
theorem noTab2 {s : ByteArray} {n : Nat} {C : Nat → Clm} {r : Nat} {m : Nat → Nat} {R : Nat → Nat → Itm} {k : Nat} (hk : k < r) (h : okRowAt n C m R k = false) : okTab s n C r m R = false := by
  unfold okTab
  rw [allN_false hk h]
  simp
end Go.Proofs.YtfodndnkhgijmaaDoor
