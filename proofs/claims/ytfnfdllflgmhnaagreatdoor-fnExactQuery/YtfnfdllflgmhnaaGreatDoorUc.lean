import Derived.Test.YtfnfdllflgmhnaaGreatDoorUb
open Go renaming Value → XU
open Go.IntKind renaming i64 → κ
open Go.Value renaming int → ι
open List renaming length_append → XQ, length_take → Xf
open Option renaming some → ς
namespace Go.Proofs.YtfnfdllflgmhnaaGreatDoor
open Go.RowKit Go.Maps Go.WideMaps
def Bk(C:Nat->Clm)(n:Nat)(t:Itm)(a:List Int):Int×Int:=
 if t.o=2 then (2,0)
 else if t.o=3 then (match Bo C t.s n with
  | some j=>((C j).t,0)
  | none=>(0,3))
 else if t.o=7∨t.o=8 then (if a.getD 0 0=a.getD 1 0 then (1,0) else (0,4))
 else if t.o=12 then (if a.getD 0 0=2/\a.getD 1 0=2 then (2,0) else (0,4))
 else if t.o=13 then (if a.getD 0 0=2 then (1,0) else (0,4))
 else (if a.all (λx=>x == 1)=true then (1,0) else (0,4))
def DZ(o:Int):Nat:=(Aj o).toNat
theorem EP(o:Int):((DZ o:Nat):Int)=Aj o:=by
 have:=CF o;unfold DZ;omega
def LY(C:Nat->Clm)(n:Nat)(t:Itm)(st:List Int):Int×Int:=Bk C n t (st.drop (st.length - DZ t.o))
def ck(C:Nat->Clm)(n:Nat)(I:Nat->Itm):Nat->List Int×Int
 | 0=>([],0)
 | k+1=>if (ck C n I k).2≠0 then ck C n I k
  else if (LY C n (I k) (ck C n I k).1).2≠0 then ((ck C n I k).1,(LY C n (I k) (ck C n I k).1).2)
  else ((ck C n I k).1.take ((ck C n I k).1.length - DZ (I k).o) ++ [(LY C n (I k) (ck C n I k).1).1],0)
def De(C:Nat->Clm)(n:Nat)(I:Nat->Itm)(m:Nat):Int×Int:=if (ck C n I m).2≠0 then (0,(ck C n I m).2) else ((ck C n I m).1.getD 0 0,0)
theorem D4{C:Nat->Clm}{n:Nat}{I:Nat->Itm}{k:Nat}(h:(ck C n I k).2≠0):∀ m,k<=m->ck C n I m=ck C n I k:=by
 intro m hm;induction m with
 | zero=>
  obtain rfl:k=0:=by omega
  rfl
 | succ m ih=>
  by_cases e:k=m+1
  · subst e;rfl
  · have e2:=ih (by omega);rw [ck,e2,if_pos h]
theorem Hk{C:Nat->Clm}{n:Nat}{I:Nat->Itm}:∀ {k:Nat} {d:Int},ex I k=ς d->(ck C n I k).2=0->(((ck C n I k).1.length:Nat):Int)=d:=by
 intro k;induction k with
 | zero=>intro d h _;simp [ex] at h;simp [ck,h]
 | succ k ih=>
  intro d h h0;rw [ex] at h;split at h
  · cases h
  ·
   rename_i x hx
   split at h
   ·
    rename_i hc
    cases h
    rw [ck] at h0 ⊢;split at h0
    ·
     rename_i hf
     exact absurd h0 hf
    ·
     rename_i hf
     rw [if_neg hf];split at h0
     ·
      rename_i hg
      exact absurd h0 hg
     ·
      rename_i hg
      rw [if_neg hg];have:=ih hx (by simpa using hf);have ha:=EP (I k).o;have hl:=CF (I k).o;simp only [XQ,Xf,List.length_cons,List.length_nil]
      omega
   · cases h
def Ba(L:List Int):List XU:=L.map (λx=>ι κ x)
