import Derived.Test.YtfnfdllflgmhnaaGreatDoorRq
import Derived.Test.YtfnfdllflgmhnaaGreatDoorRl
import Derived.Deep.RegionHeld3
open Go renaming Value → XU, World → ο, Calls → XR, cell_of_row → ε
open Go.Ending renaming returned → ρ
open Go.IntKind renaming i64 → κ
open Go.Obj renaming cells → γ
open Go.Proofs.Tryz renaming prog → μ
open Go.RowKit renaming Below → υ
open Go.Value renaming slice → σ, int → ι, string → τ, agg → χ, pointer → ψ
open List renaming length_append → XQ
open Nat renaming le_trans → Xe, zero_add → XT, not_lt_zero → Xj, zero_le → XZ
open Option renaming none → ν, some → ς
open Or renaming inl → Xc, inr → Xi
namespace Go.Proofs.YtfnfdllflgmhnaaGreatDoor
open Go.RowKit Go.Maps Go.WideMaps
theorem KC{w:ο}{base g m cap:Nat}{s:ByteArray}{q:Option Nat}(h:w.ownsRow base 92 2 (σ (ς ⟨g,0,ν⟩) m cap) m (Bs (λj=>[τ (Dh s (AO (Ca s) q j)).s,ι κ (Dh s (AO (Ca s) q j)).t]) m))(hs:s.size<=1048576):CL w (ς ⟨g,0,ν⟩) m (λj=>Dh s (AO (Ca s) q j)):=λk hk=>by
 have hF:∀ j,([τ (Dh s (AO (Ca s) q j)).s,ι κ (Dh s (AO (Ca s) q j)).t]:List XU).length=2:=λ_=>rfl;refine⟨g,0,rfl,?_,?_,Xe (Bf _ _ _) hs⟩
 · have h1:=h.cellAt (k * 2) (by omega);rw [XT,h1];have:=CY hF (j:=k) (c:=0) (by omega) m hk;simpa using this
 · have h1:=h.cellAt (k * 2+1) (by omega);rw [XT,h1];have:=CY hF (j:=k) (c:=1) (by omega) m hk;simpa using this
theorem KB{w:ο}{base g m cap:Nat}{s:ByteArray}{q:Option Nat}(h:w.ownsRow base 94 3 (σ (ς ⟨g,0,ν⟩) m cap) m (Bs (λj=>[ι κ (CO s (AO (Be s) q j)).o,ι κ (CO s (AO (Be s) q j)).m,τ (CO s (AO (Be s) q j)).s]) m))(hs:s.size<=1048576):IL w (ς ⟨g,0,ν⟩) m (λj=>CO s (AO (Be s) q j)):=λk hk=>by
 have hF:∀ j,([ι κ (CO s (AO (Be s) q j)).o,ι κ (CO s (AO (Be s) q j)).m,τ (CO s (AO (Be s) q j)).s]:List XU).length=3:=λ_=>rfl;refine⟨g,0,rfl,?_,?_,?_,Xe (OB _ _) hs⟩
 · have h1:=h.cellAt (k * 3) (by omega);rw [XT,h1];have:=CY hF (j:=k) (c:=0) (by omega) m hk;simpa using this
 · have h1:=h.cellAt (k * 3+1) (by omega);rw [XT,h1];have:=CY hF (j:=k) (c:=1) (by omega) m hk;simpa using this
 · have h1:=h.cellAt (k * 3+2) (by omega);rw [XT,h1];have:=CY hF (j:=k) (c:=2) (by omega) m hk;simpa using this
theorem CG(s:ByteArray)(p:Option Nat):AY s 2 p<=65535/\AY s 1 p<=65535:=⟨(BF s (by omega) p).2,(BF s (by omega) p).2⟩
theorem Mv{w:ο}{base B g m cap:Nat}{s:ByteArray}{X:Nat->Ex3}{Q:Nat->Option Nat}(h:w.ownsRow base 61 1 (σ (ς ⟨g,0,ν⟩) m cap) m (F2 X m))(hX:∀ i,i<m->LsI w base B s (AD s 2 (Q i)) (AY s 2 (Q i)) (X i).m (X i).g (X i).c)(hs:s.size<=1048576) :
 OL w (ς ⟨g,0,ν⟩) m (λi=>(X i).m) (λi j=>An s (AO (AZ s) (AD s 2 (Q i)) j)):=λk hk=>by
 have hL:=hX k hk;have hle:=hL.le;have h2:=(CG s (Q k)).1;refine⟨g,0,ς ⟨(X k).g,0,ν⟩,(X k).c,rfl,?_,hL.il hs,by show (X k).m<=1048576;omega⟩;have h1:=h.cellAt k (by omega);rw [XT,h1];unfold F2;rw [List.getElem?_map,List.getElem?_eq_getElem (by simpa using hk)];simp
theorem EN{d:St}{s:ByteArray}(h:BM d=s)(hs:0<s.size):AL d=true/\At s 0 (Bl d)/\(Bl d).length=s.size:=by
 unfold BM at h;rcases hok:AL d
 ·
  rw [hok] at h;simp at h
  subst h;exact absurd hs (by decide)
 ·
  rw [hok,if_pos rfl] at h;split at h
  · subst h;exact absurd hs (by decide)
  ·
   subst h;have:=Ti (bs (Bl d));unfold bs at this ⊢;simp only at this
   exact⟨rfl,this,by simp [ByteArray.size]⟩
def z3:Itm:=⟨0,0,⟨#[]⟩⟩
def zC:Clm:=⟨⟨#[]⟩,0⟩
def Ar(s:ByteArray):ByteArray:=Ai s 1 (AD s 1 (ς 0))
def Ol(s:ByteArray)(m:Nat):St:=⟨1,Ar s,m,λj=>Dh s (AO (Ca s) (AD s 1 (Ad s)) j),0,λ_=>z3,⟨#[]⟩,0,λ_=>z3,0,λ_=>z3,0,λ_=>0,λ_ _=>z3⟩
def Ok(s:ByteArray)(m:Nat):St:=⟨2,Ar s,0,λ_=>zC,m,λj=>CO s (AO (Be s) (AD s 1 (Ad s)) j),⟨#[]⟩,0,λ_=>z3,0,λ_=>z3,0,λ_=>0,λ_ _=>z3⟩
def Oj(s:ByteArray)(m m':Nat):St:=⟨3,Ar s,0,λ_=>zC,0,λ_=>z3,Ai s 1 (Ad s),m,λj=>An s (AO (AZ s) (AD s 2 (Ab s 1 (Ad s))) j),m',λj=>An s (AO (AZ s) (AD s 2 (AT s (Ab s 1 (Ad s)))) j),0,λ_=>0,λ_ _=>z3⟩
def Oi(s:ByteArray)(m':Nat):St:=⟨4,Ar s,0,λ_=>zC,0,λ_=>z3,⟨#[]⟩,0,λ_=>z3,m',λj=>An s (AO (AZ s) (AD s 2 (Ad s)) j),0,λ_=>0,λ_ _=>z3⟩
def Oh(s:ByteArray)(m:Nat)(M:Nat->Nat)(m':Nat):St:=⟨5,Ar s,0,λ_=>zC,0,λ_=>z3,⟨#[]⟩,0,λ_=>z3,m',λj=>An s (AO (AZ s) (AD s 2 (AO (AT s) (AD s 1 (Ad s)) m)) j),m,M,λi j=>An s (AO (AZ s) (AD s 2 (AO (AT s) (AD s 1 (Ad s)) i)) j)⟩
theorem W4{s:ByteArray}{m:Nat}(h:BM (Ol s m)=s)(hs:0<s.size):AY s 1 (Ad s)=m/\AO (Ca s) (AD s 1 (Ad s)) m=ς s.size:=by
 obtain⟨hok,hA,hl⟩:=EN h hs;obtain⟨q1,-,q3⟩:=OS hA hl hok rfl;exact⟨q1,q3⟩
theorem W3{s:ByteArray}{m:Nat}(h:BM (Ok s m)=s)(hs:0<s.size):AY s 1 (Ad s)=m/\AO (Be s) (AD s 1 (Ad s)) m=ς s.size:=by
 obtain⟨hok,hA,hl⟩:=EN h hs;obtain⟨q1,-,q3⟩:=OR hA hl hok ⟨λj _=>Re _ _,λj hj=>absurd hj (Xj _),λj hj=>absurd hj (Xj _),λj hj=>absurd hj (Xj _)⟩ rfl;exact⟨q1,q3⟩
theorem W2{s:ByteArray}{m m':Nat}(h:BM (Oj s m m')=s)(hs:0<s.size):AY s 2 (Ab s 1 (Ad s))=m/\AY s 2 (AT s (Ab s 1 (Ad s)))=m'/\AT s (AT s (Ab s 1 (Ad s)))=ς s.size:=by
 obtain⟨hok,hA,hl⟩:=EN h hs;obtain⟨-,q1,-,q2,-,q3⟩:=OQ hA hl hok ⟨λj hj=>absurd hj (Xj _),λj _=>Ej _ _,λj _=>Ej _ _,λj hj=>absurd hj (Xj _)⟩ rfl;exact⟨q1,q2,q3⟩
theorem Wz{s:ByteArray}{m':Nat}(h:BM (Oi s m')=s)(hs:0<s.size):AY s 2 (Ad s)=m'/\AT s (Ad s)=ς s.size:=by
 obtain⟨hok,hA,hl⟩:=EN h hs;obtain⟨q1,-,q3⟩:=OP hA hl hok ⟨λj hj=>absurd hj (Xj _),λj hj=>absurd hj (Xj _),λj _=>Ej _ _,λj hj=>absurd hj (Xj _)⟩ rfl;exact⟨q1,q3⟩
theorem Wy{s:ByteArray}{m:Nat}{M:Nat->Nat}{m':Nat}(h:BM (Oh s m M m')=s)(hs:0<s.size):AY s 1 (Ad s)=m/\(∀ i,i<m->AY s 2 (AO (AT s) (AD s 1 (Ad s)) i)=M i)/\AY s 2 (AO (AT s) (AD s 1 (Ad s)) m)=m'/\AT s (AO (AT s) (AD s 1 (Ad s)) m)=ς s.size:=by
 obtain⟨hok,hA,hl⟩:=EN h hs;obtain⟨q1,q2,q3,-,q5⟩:=OO hA hl hok ⟨λj hj=>absurd hj (Xj _),λj hj=>absurd hj (Xj _),λj _=>Ej _ _,λi _ j _=>Ej _ _⟩ rfl;exact⟨q1,λi hi=>(q2 i hi).1,q3,q5⟩
def LK(s:ByteArray):St:=⟨AK s 1 (ς 0),Ar s,0,λ_=>zC,0,λ_=>z3,⟨#[]⟩,0,λ_=>z3,0,λ_=>z3,0,λ_=>0,λ_ _=>z3⟩
def Cnt(f:Option Nat->Option Nat)(q:Option Nat)(n m:Nat):Prop:=m<=n/\(m=n∨AO f q m=ν)
def Rdg(s:ByteArray)(d:St):Prop:=
 (AK s 1 (ς 0)≠1/\AK s 1 (ς 0)≠2/\AK s 1 (ς 0)≠3/\AK s 1 (ς 0)≠4/\AK s 1 (ς 0)≠5/\d=LK s) ∨
 (∃ (m:Nat),AK s 1 (ς 0)=1/\Cnt (Ca s) (AD s 1 (Ad s)) (AY s 1 (Ad s)) m/\d=Ol s m) ∨
 (∃ (m:Nat),AK s 1 (ς 0)=2/\Cnt (Be s) (AD s 1 (Ad s)) (AY s 1 (Ad s)) m/\d=Ok s m) ∨
 (∃ (m m':Nat),AK s 1 (ς 0)=3/\Cnt (AZ s) (AD s 2 (Ab s 1 (Ad s))) (AY s 2 (Ab s 1 (Ad s))) m/\Cnt (AZ s) (AD s 2 (AT s (Ab s 1 (Ad s)))) (AY s 2 (AT s (Ab s 1 (Ad s)))) m'/\d=Oj s m m') ∨
 (∃ (m':Nat),AK s 1 (ς 0)=4/\Cnt (AZ s) (AD s 2 (Ad s)) (AY s 2 (Ad s)) m'/\d=Oi s m') ∨
 (∃ (m:Nat) (M:Nat->Nat) (m':Nat),AK s 1 (ς 0)=5/\Cnt (AT s) (AD s 1 (Ad s)) (AY s 1 (Ad s)) m/\(∀ i,i<m->Cnt (AZ s) (AD s 2 (AO (AT s) (AD s 1 (Ad s)) i)) (AY s 2 (AO (AT s) (AD s 1 (Ad s)) i)) (M i))/\(∀ i,m<=i->M i=0)/\Cnt (AZ s) (AD s 2 (AO (AT s) (AD s 1 (Ad s)) m)) (AY s 2 (AO (AT s) (AD s 1 (Ad s)) m)) m'/\d=Oh s m M m')
theorem Rdg.k0{s:ByteArray} (h0:AK s 1 (ς 0)≠1)(h1:AK s 1 (ς 0)≠2)(h2:AK s 1 (ς 0)≠3)(h3:AK s 1 (ς 0)≠4)(h4:AK s 1 (ς 0)≠5):Rdg s (LK s):=Xc ⟨h0,h1,h2,h3,h4,rfl⟩
theorem Rdg.k1{s:ByteArray}(m:Nat)(h0:AK s 1 (ς 0)=1)(h1:Cnt (Ca s) (AD s 1 (Ad s)) (AY s 1 (Ad s)) m):Rdg s (Ol s m):=Xi (Xc ⟨m,h0,h1,rfl⟩)
theorem Rdg.k2{s:ByteArray}(m:Nat)(h0:AK s 1 (ς 0)=2)(h1:Cnt (Be s) (AD s 1 (Ad s)) (AY s 1 (Ad s)) m):Rdg s (Ok s m):=Xi (Xi (Xc ⟨m,h0,h1,rfl⟩))
theorem Rdg.k3{s:ByteArray}(m m':Nat)(h0:AK s 1 (ς 0)=3)(h1:Cnt (AZ s) (AD s 2 (Ab s 1 (Ad s))) (AY s 2 (Ab s 1 (Ad s))) m)(h2:Cnt (AZ s) (AD s 2 (AT s (Ab s 1 (Ad s)))) (AY s 2 (AT s (Ab s 1 (Ad s)))) m'):Rdg s (Oj s m m'):=Xi (Xi (Xi (Xc ⟨m,m',h0,h1,h2,rfl⟩)))
theorem Rdg.k4{s:ByteArray}(m':Nat)(h0:AK s 1 (ς 0)=4)(h1:Cnt (AZ s) (AD s 2 (Ad s)) (AY s 2 (Ad s)) m'):Rdg s (Oi s m'):=Xi (Xi (Xi (Xi (Xc ⟨m',h0,h1,rfl⟩))))
theorem Rdg.k5{s:ByteArray}(m:Nat)(M:Nat->Nat)(m':Nat)(h0:AK s 1 (ς 0)=5)(h1:Cnt (AT s) (AD s 1 (Ad s)) (AY s 1 (Ad s)) m)(h2:(∀ i,i<m->Cnt (AZ s) (AD s 2 (AO (AT s) (AD s 1 (Ad s)) i)) (AY s 2 (AO (AT s) (AD s 1 (Ad s)) i)) (M i)))(h3:(∀ i,m<=i->M i=0))(h4:Cnt (AZ s) (AD s 2 (AO (AT s) (AD s 1 (Ad s)) m)) (AY s 2 (AO (AT s) (AD s 1 (Ad s)) m)) m'):Rdg s (Oh s m M m'):=Xi (Xi (Xi (Xi (Xi (⟨m,M,m',h0,h1,h2,h3,h4,rfl⟩)))))
theorem In(s:ByteArray):Ca s ν=ν:=rfl
theorem Hw(s:ByteArray):Be s ν=ν:=by
 unfold Be;split <;> rfl
theorem D2(s:ByteArray):AT s ν=ν:=by
 unfold AT;exact Ea (BR s) (m:=0) rfl _ (XZ _)
theorem Cnt.all{f:Option Nat->Option Nat}(hf:f ν=ν){q:Option Nat}{n m z:Nat}(h:Cnt f q n m)(hz:AO f q n=ς z):m=n:=by
 rcases h with ⟨h1,h2 | h2⟩
 · exact h2
 · have:=Ea hf h2 n h1;rw [this] at hz;cases hz
theorem Wx(s:ByteArray)(e1:AK s 1 (ς 0)≠1)(e2:AK s 1 (ς 0)≠2)(e3:AK s 1 (ς 0)≠3)(e4:AK s 1 (ς 0)≠4)(e5:AK s 1 (ς 0)≠5):AL (LK s)=false:=by
 cases h:AL (LK s)
 · rfl
 ·
  rcases PZ h with e | e | e | e | e
  · exact absurd e e1
  · exact absurd e e2
  · exact absurd e e3
  · exact absurd e e4
  · exact absurd e e5
theorem BA{s:ByteArray}{a b:Int}(h:AK s 1 (ς 0)=a)(h':AK s 1 (ς 0)=b)(hne:a≠b):False:=hne (h.symm.trans h')
theorem Lj{f:Option Nat->Option Nat}(hf:f ν=ν){q:Option Nat}{n z:Nat}(h:AO f q n=ς z):∀ i,i<=n->∃ y,AO f q i=ς y:=λi hi=>by
 cases e:AO f q i with
 | none=>rw [Ea hf e n hi] at h;cases h
 | some y=>exact⟨y,rfl⟩
theorem II{s:ByteArray}{d d':St}(h:Rdg s d)(h':Rdg s d')(hs:0<s.size)(he:BM d=s):d=d':=by
 rcases h with ⟨e1,e2,e3,e4,e5,rfl⟩ | ⟨m,ek,hc,rfl⟩ | ⟨m,ek,hc,rfl⟩ | ⟨m,m1,ek,hc,hd,rfl⟩ | ⟨m,ek,hc,rfl⟩ | ⟨m,M,m1,ek,hc,hM,hz,hd,rfl⟩
 · have:=(EN he hs).1;rw [Wx s e1 e2 e3 e4 e5] at this;cases this
 ·
  obtain⟨q1,q2⟩:=W4 he hs;rcases h' with ⟨e1,_,_,_,_,rfl⟩ | ⟨m',ek',hc',rfl⟩ | ⟨_,e,_,rfl⟩ | ⟨_,_,e,_,_,rfl⟩ | ⟨_,e,_,rfl⟩ | ⟨_,_,_,e,_,_,_,_,rfl⟩
  · exact absurd ek e1
  · rw [←q1] at q2;have a:=hc.all (In s) q2;have b:=hc'.all (In s) q2;rw [a,b]
  · exact(BA ek e (by decide)).elim
  · exact(BA ek e (by decide)).elim
  · exact(BA ek e (by decide)).elim
  · exact(BA ek e (by decide)).elim
 ·
  obtain⟨q1,q2⟩:=W3 he hs;rcases h' with ⟨_,e1,_,_,_,rfl⟩ | ⟨_,e,_,rfl⟩ | ⟨m',ek',hc',rfl⟩ | ⟨_,_,e,_,_,rfl⟩ | ⟨_,e,_,rfl⟩ | ⟨_,_,_,e,_,_,_,_,rfl⟩
  · exact absurd ek e1
  · exact(BA ek e (by decide)).elim
  · rw [←q1] at q2;have a:=hc.all (Hw s) q2;have b:=hc'.all (Hw s) q2;rw [a,b]
  · exact(BA ek e (by decide)).elim
  · exact(BA ek e (by decide)).elim
  · exact(BA ek e (by decide)).elim
 ·
  obtain⟨-,-,q3⟩:=W2 he hs;rcases h' with ⟨_,_,e1,_,_,rfl⟩ | ⟨_,e,_,rfl⟩ | ⟨_,e,_,rfl⟩ | ⟨m',m1',ek',hc',hd',rfl⟩ | ⟨_,e,_,rfl⟩ | ⟨_,_,_,e,_,_,_,_,rfl⟩
  · exact absurd ek e1
  · exact(BA ek e (by decide)).elim
  · exact(BA ek e (by decide)).elim
  ·
   have q4:∃ y,AT s (Ab s 1 (Ad s))=ς y:=by
    cases e:AT s (Ab s 1 (Ad s)) with
    | none=>rw [e,D2] at q3;cases q3
    | some y=>exact⟨y,rfl⟩
   obtain⟨y,q4⟩:=q4;have a:=hc.all (BR s) q4;have b:=hc'.all (BR s) q4;have a':=hd.all (BR s) q3;have b':=hd'.all (BR s) q3;rw [a,b,a',b']
  · exact(BA ek e (by decide)).elim
  · exact(BA ek e (by decide)).elim
 ·
  obtain⟨-,q2⟩:=Wz he hs;rcases h' with ⟨_,_,_,e1,_,rfl⟩ | ⟨_,e,_,rfl⟩ | ⟨_,e,_,rfl⟩ | ⟨_,_,e,_,_,rfl⟩ | ⟨m',ek',hc',rfl⟩ | ⟨_,_,_,e,_,_,_,_,rfl⟩
  · exact absurd ek e1
  · exact(BA ek e (by decide)).elim
  · exact(BA ek e (by decide)).elim
  · exact(BA ek e (by decide)).elim
  · have a:=hc.all (BR s) q2;have b:=hc'.all (BR s) q2;rw [a,b]
  · exact(BA ek e (by decide)).elim
 ·
  obtain⟨q1,-,-,q3⟩:=Wy he hs;rcases h' with ⟨_,_,_,_,e1,rfl⟩ | ⟨_,e,_,rfl⟩ | ⟨_,e,_,rfl⟩ | ⟨_,_,e,_,_,rfl⟩ | ⟨_,e,_,rfl⟩ | ⟨m',M',m1',ek',hc',hM',hz',hd',rfl⟩
  · exact absurd ek e1
  · exact(BA ek e (by decide)).elim
  · exact(BA ek e (by decide)).elim
  · exact(BA ek e (by decide)).elim
  · exact(BA ek e (by decide)).elim
  ·
   have q4:∃ y,AO (AT s) (AD s 1 (Ad s)) m=ς y:=by
    cases e:AO (AT s) (AD s 1 (Ad s)) m with
    | none=>rw [e,D2] at q3;cases q3
    | some y=>exact⟨y,rfl⟩
   obtain⟨y,q4⟩:=q4;have q5:=q4;rw [←q1] at q5;have b:=hc'.all (D2 s) q5;rw [q1] at b;subst b;have a':=hd.all (BR s) q3;have b':=hd'.all (BR s) q3;have c:M=M':=by
    funext i
    by_cases hi:i<m'
    · obtain⟨u,hu⟩:=Lj (D2 s) q4 (i+1) hi;have e1:=(hM i hi).all (BR s) hu;have e2:=(hM' i hi).all (BR s) hu;rw [e1,e2]
    · rw [hz i (by omega),hz' i (by omega)]
   rw [a',b',c]
def Good(s:ByteArray)(d:St):Prop:=0<s.size/\Rdg s d/\BM d=s
theorem Good.one{s:ByteArray}{d d':St}(h:Good s d)(h':Good s d'):d=d':=II h.2.1 h'.2.1 h.1 h.2.2
theorem Good.ok{s:ByteArray}{d:St}(h:Good s d):AL d=true:=(EN h.2.2 h.1).1
theorem Tf(d:St):(BM d).size<=60000:=by
 unfold BM;(repeat' split)
 · exact XZ _
 · omega
 · exact XZ _
theorem Good.le{s:ByteArray}{d:St}(h:Good s d):s.size<=60000:=by
 have:=Tf d;rw [h.2.2] at this;exact this
theorem DX{s:ByteArray}{d:St}(h:Rdg s d)(hne:BM d≠s):∀ d',¬Good s d':=λd' hg=>by
 have e:=II hg.2.1 h hg.1 hg.2.2;subst e;exact hne hg.2.2
def WR(w:ο)(lo hi:Nat)(t:TypeId)(z:Nat)(a:Option Addr)(n:Nat):Prop:=
 n=0∨∃ g cur,a=ς ⟨g,0,ν⟩/\lo<=g/\g<hi/\w.heap[g]?=ς (γ cur t (0,0))/\n * z<=cur.size
def bk(a:Option Addr)(n:Nat):Option Nat:=if n=0 then ν else a.map (·.block)
def Dj(a:Option Addr)(n:Nat)(a':Option Addr)(n':Nat):Prop:=bk a n=ν∨bk a n≠bk a' n'
theorem Dj.zero(a a':Option Addr)(n':Nat):Dj a 0 a' n':=Xc rfl
theorem Dj.zero'(a a':Option Addr)(n:Nat):Dj a n a' 0:=by
 unfold Dj;cases h:bk a n with
 | none=>exact Xc rfl
 | some x=>exact Xi (by simp [bk])
theorem Dj.of{g g' n n':Nat}(h:g≠g'):Dj (ς ⟨g,0,ν⟩) n (ς ⟨g',0,ν⟩) n':=by
 unfold Dj bk;by_cases e:n=0
 · rw [if_pos e];exact Xc rfl
 ·
  rw [if_neg e];refine Xi ?_;by_cases e':n'=0
  · rw [if_pos e'];simp
  · rw [if_neg e'];simpa using h
def KpR(lo hi:Nat)(w w':ο):Prop:=∀ g,lo<=g->g<hi->∀ o,w.heap[g]?=ς o->w'.heap[g]?=ς o
theorem KpR.below{lo hi:Nat}{w w':ο}(h:υ w.heap.size w w'):KpR lo hi w w':=λ_ _ _ _ hg=>AC hg h
theorem KpR.trans{lo hi:Nat}{a b c:ο}(h:KpR lo hi a b)(k:KpR lo hi b c):KpR lo hi a c:=λg h1 h2 o hg=>k g h1 h2 o (h g h1 h2 o hg)
theorem KpR.set{lo hi R i:Nat}{w:ο}{v:XU}(h:R<lo):KpR lo hi w (w.setCell ⟨R,i,ν⟩ v):=λg h1 _ o hg=>AS hg (by omega)
theorem WR.kp{w w':ο}{lo hi:Nat}{t:TypeId}{z:Nat}{a:Option Addr}{n:Nat}(h:WR w lo hi t z a n)(k:KpR lo hi w w'):WR w' lo hi t z a n:=by
 rcases h with h | ⟨g,cur,h1,h2,h3,h4,h5⟩
 · exact Xc h
 · exact Xi ⟨g,cur,h1,h2,h3,k g h2 h3 _ h4,h5⟩
theorem EK{w:ο}{base t z g m cap:Nat}{xs:List XU}(h:w.ownsRow base t z (σ (ς ⟨g,0,ν⟩) m cap) m xs):WR w base w.heap.size t z (ς ⟨g,0,ν⟩) m:=by
 have hb:=h.lt g rfl;obtain⟨_,hh⟩:=h;rcases hh with hh | ⟨gg,cap',cur,e1,e2,e3,e4,e5,e6,e7⟩
 · simp at hh
 ·
  simp only [Value.slice.injEq,Option.some.injEq,Addr.mk.injEq,and_true] at e1
  obtain⟨rfl,-,rfl⟩:=e1;refine Xi ⟨g,cur,rfl,hb.1,hb.2,e3,?_⟩;rw [e6];exact Nat.mul_le_mul_right _ e4
structure WrA(w:ο)(lo hi:Nat)(d:St)(p:Sa):Prop where
 n7:d.n7=0
 c2:WR w lo hi 92 2 p.a2 d.n2
 c3:WR w lo hi 94 3 p.a3 d.n3
 c5:WR w lo hi 135 3 p.a5 d.n5
 c6:WR w lo hi 135 3 p.a6 d.n6
 j23:Dj p.a2 d.n2 p.a3 d.n3
 j25:Dj p.a2 d.n2 p.a5 d.n5
 j26:Dj p.a2 d.n2 p.a6 d.n6
 j35:Dj p.a3 d.n3 p.a5 d.n5
 j36:Dj p.a3 d.n3 p.a6 d.n6
 j56:Dj p.a5 d.n5 p.a6 d.n6
structure OW(w:ο)(lo hi:Nat)(d:St)(p:Sa)(g:Nat)(cur:Array XU)(A:Nat->Option Addr)(C:Nat->Nat):Prop where
 a7:p.a7=ς ⟨g,0,ν⟩
 ge:lo<=g
 lt:g<hi
 row:w.heap[g]?=ς (γ cur 61 (0,0))
 at':∀ i,i<d.n7->cur[i]?=ς (σ (A i) (d.m7 i) (C i))
 wr:∀ i,i<d.n7->WR w lo hi 135 3 (A i) (d.m7 i)
 j6:bk p.a6 d.n6≠ς g
 ji:∀ i,i<d.n7->bk (A i) (d.m7 i)≠ς g
 j6i:∀ i,i<d.n7->Dj p.a6 d.n6 (A i) (d.m7 i)
 jik:∀ i k,k<i->i<d.n7->Dj (A i) (d.m7 i) (A k) (d.m7 k)
structure WrB(w:ο)(lo hi:Nat)(d:St)(p:Sa):Prop where
 n2:d.n2=0
 n3:d.n3=0
 n5:d.n5=0
 c6:WR w lo hi 135 3 p.a6 d.n6
 ou:∃ g cur A C,OW w lo hi d p g cur A C
def Wr(w:ο)(lo hi:Nat)(d:St)(p:Sa):Prop:=WrA w lo hi d p∨WrB w lo hi d p
theorem WrA.kp{w w':ο}{lo hi:Nat}{d:St}{p:Sa}(h:WrA w lo hi d p)(k:KpR lo hi w w'):WrA w' lo hi d p:=
 ⟨h.n7,h.c2.kp k,h.c3.kp k,h.c5.kp k,h.c6.kp k,h.j23,h.j25,h.j26,h.j35,h.j36,h.j56⟩
theorem OW.kp{w w':ο}{lo hi:Nat}{d:St}{p:Sa}{g:Nat}{cur:Array XU}{A:Nat->Option Addr}{C:Nat->Nat}(h:OW w lo hi d p g cur A C)(k:KpR lo hi w w'):OW w' lo hi d p g cur A C:=
 ⟨h.a7,h.ge,h.lt,k g h.ge h.lt _ h.row,h.at',λi hi=>(h.wr i hi).kp k,h.j6,h.ji,h.j6i,h.jik⟩
theorem WrB.kp{w w':ο}{lo hi:Nat}{d:St}{p:Sa}(h:WrB w lo hi d p)(k:KpR lo hi w w'):WrB w' lo hi d p:=by
 obtain⟨g,cur,A,C,h7⟩:=h.ou;exact⟨h.n2,h.n3,h.n5,h.c6.kp k,g,cur,A,C,h7.kp k⟩
theorem Wr.kp{w w':ο}{lo hi:Nat}{d:St}{p:Sa}(h:Wr w lo hi d p)(k:KpR lo hi w w'):Wr w' lo hi d p:=h.imp (λh=>h.kp k) (λh=>h.kp k)
theorem Ax(w:ο)(a:Option Addr)(I:Nat->Itm):IL w a 0 I:=λ_ hk=>absurd hk (Xj _)
theorem Cb(w:ο)(a:Option Addr)(I:Nat->Clm):CL w a 0 I:=λ_ hk=>absurd hk (Xj _)
theorem Co(w:ο)(a:Option Addr)(m:Nat->Nat)(I:Nat->Nat->Itm):OL w a 0 m I:=λ_ hk=>absurd hk (Xj _)
theorem Bi:(⟨#[]⟩:ByteArray).size<=1048576:=XZ _
def WW:Sa:=⟨ν,0,ν,0,ν,0,ν,0,ν,0⟩
theorem WR.mono{w:ο}{lo hi lo' hi':Nat}{t:TypeId}{z:Nat}{a:Option Addr}{n:Nat}(h:WR w lo hi t z a n)(h1:lo'<=lo)(h2:hi<=hi'):WR w lo' hi' t z a n:=by
 rcases h with h | ⟨g,cur,e1,e2,e3,e4,e5⟩
 · exact Xc h
 · exact Xi ⟨g,cur,e1,by omega,by omega,e4,e5⟩
theorem Wr.mono{w:ο}{lo hi lo' hi':Nat}{d:St}{p:Sa}(h:Wr w lo hi d p)(h1:lo'<=lo)(h2:hi<=hi'):Wr w lo' hi' d p:=by
 rcases h with h | h
 · exact Xc ⟨h.n7,h.c2.mono h1 h2,h.c3.mono h1 h2,h.c5.mono h1 h2,h.c6.mono h1 h2,h.j23,h.j25,h.j26,h.j35,h.j36,h.j56⟩
 · obtain⟨g,cur,A,C,o⟩:=h.ou;exact Xi ⟨h.n2,h.n3,h.n5,h.c6.mono h1 h2,g,cur,A,C,o.a7,Xe h1 o.ge,Nat.lt_of_lt_of_le o.lt h2,o.row,o.at',λi hi=>(o.wr i hi).mono h1 h2,o.j6,o.ji,o.j6i,o.jik⟩
theorem CL.kw{w w':ο}{lo hi:Nat}{a:Option Addr}{n:Nat}{C:Nat->Clm}(h:CL w a n C)(hW:WR w lo hi 92 2 a n)(k:Kp lo w w'):CL w' a n C:=by
 rcases hW with rfl | ⟨g,cur,rfl,h2,-⟩
 · exact Cb _ _ _
 · exact h.kp k h2
theorem IL.kw{w w':ο}{lo hi:Nat}{t:TypeId}{a:Option Addr}{n:Nat}{I:Nat->Itm}(h:IL w a n I)(hW:WR w lo hi t 3 a n)(k:Kp lo w w'):IL w' a n I:=by
 rcases hW with rfl | ⟨g,cur,rfl,h2,-⟩
 · exact Ax _ _ _
 · exact h.kp k h2
theorem SM.kw{w w':ο}{lo hi:Nat}{d:St}{p:Sa}(h:SM w d p)(hW:Wr w lo hi d p)(k:Kp lo w w'):SM w' d p:=by
 rcases hW with hW | hW
 · refine⟨h.tb,h.col,h.co.kw hW.c2 k,h.va.kw hW.c3 k,h.ex.kw hW.c5 k,h.wh.kw hW.c6 k,?_,h.l2,h.l3,h.l5,h.l6,h.l7⟩;rw [hW.n7];exact Co _ _ _ _
 ·
  obtain⟨g,cur,A,C,o⟩:=hW.ou;refine⟨h.tb,h.col,by rw [hW.n2];exact Cb _ _ _,by rw [hW.n3];exact Ax _ _ _,by rw [hW.n5];exact Ax _ _ _,h.wh.kw hW.c6 k,λj hj=>?_,h.l2,h.l3,h.l5,h.l6,h.l7⟩;obtain⟨b,off,i,c,e,h0,hi,hm⟩:=h.ou j hj;rw [o.a7] at e;obtain⟨rfl,rfl⟩:g=b/\0=off:=by simpa using e
  have h0':=h0;rw [XT,ε _ _ j _ _ _ o.row,o.at' j hj] at h0';obtain⟨rfl,rfl⟩:A j=i/\C j=c:=by simpa using h0'
  exact⟨g,0,A j,C j,o.a7,k ⟨g,0+j,ν⟩ _ o.ge h0,hi.kw (o.wr j hj) k,hm⟩
theorem EI{w a b:ο}{B:Nat}(h:υ w.heap.size w a)(g:a.grownBy b (ς B))(hB:w.heap.size<=B):υ w.heap.size w b:=
 ⟨g.os.trans h.os,g.tape.trans h.tape,g.output.trans h.output,Xe h.size g.size,λk hk=>(g.block k (Nat.lt_of_lt_of_le hk h.size) (by simp;omega)).trans (h.block k hk)⟩
theorem P9{X:Nat->Ex3}{m i:Nat}(h:i<m):(F2 X m)[i]?=ς (σ (ς ⟨(X i).g,0,ν⟩) (X i).m (X i).c):=by
 unfold F2;rw [List.getElem?_map,List.getElem?_eq_getElem (by simpa using h)];simp
theorem Mu{w:ο}{base t g m cap:Nat}{xs:List XU}(h:w.ownsRow base t 1 (σ (ς ⟨g,0,ν⟩) m cap) m xs):∃ cur,w.heap[g]?=ς (γ cur t (0,0))/\∀ i,i<m->cur[i]?=xs[i]?:=by
 obtain⟨_,hh⟩:=h;rcases hh with hh | ⟨gg,cap',cur,e1,e2,e3,e4,e5,e6,e7⟩
 · simp at hh
 ·
  simp only [Value.slice.injEq,Option.some.injEq,Addr.mk.injEq,and_true] at e1
  obtain⟨rfl,-,rfl⟩:=e1;refine⟨cur,e3,λi hi=>?_⟩;rw [←e7,List.getElem?_take,if_pos (by omega)];simp
theorem LsI.cnt{w:ο}{base B:Nat}{s:ByteArray}{q:Option Nat}{n m g cap:Nat}(h:LsI w base B s q n m g cap):Cnt (AZ s) q n m:=⟨h.le,h.at'⟩
theorem Og(B:Nat)(s:ByteArray)(w:ο)(h:PI w B s (ς 0))(hs:s.size<=1048576) :
 XR μ 50 #[ψ (ς ⟨B,0,ν⟩)] w λe w'=>∃ d p,e=ρ (χ (Hv d p))/\Rdg s d/\SM w' d p/\Wr w' w.heap.size w'.heap.size d p/\w.grownBy w' (ς B):=by
 have ht:(Ar s).size<=1048576:=Xe (Bf _ _ _) hs;by_cases e1:AK s 1 (ς 0)=1
 ·
  refine(Lo B s (ς 0) w h e1).mono ?_;rintro e w' ⟨m,g,cap,rfl,hO,hm,hat,hP,hg⟩;have hl:=(CG s (Ad s)).2;have hml:m<=1048576:=by have:m<=AY s 1 (Ad s):=hm;omega
  refine⟨Ol s m,⟨ς ⟨g,0,ν⟩,cap,ν,0,ν,0,ν,0,ν,0⟩,rfl,.k1 m e1 ⟨hm,hat⟩,⟨ht,Bi,KC hO hs,Ax _ _ _,Ax _ _ _,Ax _ _ _,Co _ _ _ _,hml,XZ _,XZ _,XZ _,XZ _⟩,Xc ?_,hg⟩;exact⟨rfl,EK hO,Xc rfl,Xc rfl,Xc rfl,Dj.zero' _ _ _,Dj.zero' _ _ _,Dj.zero' _ _ _,Dj.zero' _ _ _,Dj.zero' _ _ _,Dj.zero' _ _ _⟩
 by_cases e2:AK s 1 (ς 0)=2
 ·
  refine(Ln B s (ς 0) w h e2).mono ?_;rintro e w' ⟨m,g,cap,rfl,hO,hm,hat,hP,hg⟩;have hl:=(CG s (Ad s)).2;have hml:m<=1048576:=by have:m<=AY s 1 (Ad s):=hm;omega
  refine⟨Ok s m,⟨ν,0,ς ⟨g,0,ν⟩,cap,ν,0,ν,0,ν,0⟩,rfl,.k2 m e2 ⟨hm,hat⟩,⟨ht,Bi,Cb _ _ _,KB hO hs,Ax _ _ _,Ax _ _ _,Co _ _ _ _,XZ _,hml,XZ _,XZ _,XZ _⟩,Xc ?_,hg⟩;exact⟨rfl,Xc rfl,EK hO,Xc rfl,Xc rfl,Dj.zero _ _ _,Dj.zero _ _ _,Dj.zero _ _ _,Dj.zero' _ _ _,Dj.zero' _ _ _,Dj.zero' _ _ _⟩
 by_cases e3:AK s 1 (ς 0)=3
 ·
  refine(Lm B s (ς 0) w h e3).mono ?_;rintro e w' ⟨m,g,cap,m',g',cap',rfl,hL,hL',hne,hP,hg⟩;have hl:=(CG s (Ab s 1 (Ad s))).1;have hml:m<=1048576:=by have:m<=AY s 2 (Ab s 1 (Ad s)):=hL.le;omega
  have hl':=(CG s (AT s (Ab s 1 (Ad s)))).1;have hml':m'<=1048576:=by have:m'<=AY s 2 (AT s (Ab s 1 (Ad s))):=hL'.le;omega
  refine⟨Oj s m m',⟨ν,0,ν,0,ς ⟨g,0,ν⟩,cap,ς ⟨g',0,ν⟩,cap',ν,0⟩,rfl,.k3 m m' e3 hL.cnt hL'.cnt,⟨ht,Xe (Bf _ _ _) hs,Cb _ _ _,Ax _ _ _,hL.il hs,hL'.il hs,Co _ _ _ _,XZ _,XZ _,hml,hml',XZ _⟩,Xc ?_,hg⟩;exact⟨rfl,Xc rfl,Xc rfl,EK hL.own,EK hL'.own,Dj.zero _ _ _,Dj.zero _ _ _,Dj.zero _ _ _,Dj.zero _ _ _,Dj.zero _ _ _,Dj.of hne⟩
 by_cases e4:AK s 1 (ς 0)=4
 ·
  refine(Ll B s (ς 0) w h e4).mono ?_;rintro e w' ⟨m',g',cap',rfl,hL',hP,hg⟩;have hl':=(CG s (Ad s)).1;have hml':m'<=1048576:=by have:m'<=AY s 2 (Ad s):=hL'.le;omega
  refine⟨Oi s m',⟨ν,0,ν,0,ν,0,ς ⟨g',0,ν⟩,cap',ν,0⟩,rfl,.k4 m' e4 hL'.cnt,⟨ht,Bi,Cb _ _ _,Ax _ _ _,Ax _ _ _,hL'.il hs,Co _ _ _ _,XZ _,XZ _,XZ _,hml',XZ _⟩,Xc ?_,hg⟩;exact⟨rfl,Xc rfl,Xc rfl,Xc rfl,EK hL'.own,Dj.zero _ _ _,Dj.zero _ _ _,Dj.zero _ _ _,Dj.zero _ _ _,Dj.zero _ _ _,Dj.zero _ _ _⟩
 by_cases e5:AK s 1 (ς 0)=5
 ·
  refine(Lk B s (ς 0) w h e5).mono ?_;rintro e w' ⟨m,g,cap,X,m',g',cap',rfl,hO,hX,hm,hat,hL',hne,hP,hg⟩;have hl:=(CG s (Ad s)).2;have hml:m<=1048576:=by have:m<=AY s 1 (Ad s):=hm;omega
  have hl':=(CG s (AO (AT s) (AD s 1 (Ad s)) m)).1;have hml':m'<=1048576:=by have:m'<=AY s 2 (AO (AT s) (AD s 1 (Ad s)) m):=hL'.le;omega
  have hM:∀ i,i<m->(λi=>if i<m then (X i).m else 0) i=(X i).m:=λi hi=>if_pos hi
  have hol:OL w' (ς ⟨g,0,ν⟩) m (λi=>if i<m then (X i).m else 0) (λi j=>An s (AO (AZ s) (AD s 2 (AO (AT s) (AD s 1 (Ad s)) i)) j)):=λk hk=>by
   have:=Mv (Q:=λi=>AO (AT s) (AD s 1 (Ad s)) i) hO (λi hi=>(hX i hi).2.2.2) hs k hk;rw [hM k hk];exact this
  obtain⟨cur,hrow,hcur⟩:=Mu hO;have hgb:=hO.lt g rfl;refine⟨Oh s m (λi=>if i<m then (X i).m else 0) m',⟨ν,0,ν,0,ν,0,ς ⟨g',0,ν⟩,cap',ς ⟨g,0,ν⟩,cap⟩,rfl,.k5 m _ m' e5 ⟨hm,hat⟩ (λi hi=>?_) (λi hi=>if_neg (by omega)) hL'.cnt,⟨ht,Bi,Cb _ _ _,Ax _ _ _,Ax _ _ _,hL'.il hs,hol,XZ _,XZ _,XZ _,hml',hml⟩,Xi ?_,hg⟩
  · rw [if_pos hi];exact(hX i hi).2.2.2.cnt
  ·
   refine⟨rfl,rfl,rfl,EK hL'.own,g,cur,λi=>ς ⟨(X i).g,0,ν⟩,λi=>(X i).c,rfl,hgb.1,hgb.2,hrow,λi hi=>?_,λi hi=>?_,?_,λi hi=>?_,λi hi=>Dj.of (hX i hi).2.1.symm,λi k hk hi=>Dj.of ((hX i hi).2.2.1 k hk).symm⟩
   ·
    have hi':i<m:=hi;rw [hcur i hi',P9 hi'];show _=ς (σ _ (if i<m then (X i).m else 0) _)
    rw [if_pos hi']
   ·
    have hi':i<m:=hi;show WR _ _ _ _ _ _ (if i<m then (X i).m else 0)
    rw [if_pos hi'];exact EK (hX i hi).2.2.2.own
   ·
    unfold bk;split
    · simp
    · simpa using hne.symm
   ·
    unfold bk;split
    · simp
    · simpa using (hX i hi).1
 · refine(Lp B s (ς 0) w h e1 e2 e3 e4 e5).mono ?_;rintro e w' ⟨rfl,hP,hg⟩;refine⟨LK s,WW,rfl,.k0 e1 e2 e3 e4 e5,⟨ht,Bi,Cb _ _ _,Ax _ _ _,Ax _ _ _,Ax _ _ _,Co _ _ _ _,XZ _,XZ _,XZ _,XZ _,XZ _⟩,Xc ?_,hg⟩;exact⟨rfl,Xc rfl,Xc rfl,Xc rfl,Xc rfl,Dj.zero _ _ _,Dj.zero _ _ _,Dj.zero _ _ _,Dj.zero _ _ _,Dj.zero _ _ _,Dj.zero _ _ _⟩
set_option maxRecDepth 400000
set_option maxHeartbeats 8000000
theorem Wu(w:ο):XR μ 94 #[ι .u64 1,ι κ 1] w λe w'=>e=ρ (τ (bs (AJ 1 1)))/\υ w.heap.size w w':=Cr 1 w
theorem Wt(w:ο):XR μ 94 #[ι .u64 2,ι κ 1] w λe w'=>e=ρ (τ (bs (AJ 1 2)))/\υ w.heap.size w w':=Cr 2 w
theorem Ws(w:ο):XR μ 94 #[ι .u64 3,ι κ 1] w λe w'=>e=ρ (τ (bs (AJ 1 3)))/\υ w.heap.size w w':=Cr 3 w
theorem Wq(w:ο):XR μ 94 #[ι .u64 4,ι κ 1] w λe w'=>e=ρ (τ (bs (AJ 1 4)))/\υ w.heap.size w w':=Cr 4 w
theorem Wp(w:ο):XR μ 94 #[ι .u64 5,ι κ 1] w λe w'=>e=ρ (τ (bs (AJ 1 5)))/\υ w.heap.size w w':=Cr 5 w
theorem S0{w:ο}{a:Option Addr}{n:Nat}{m:Nat->Nat}{O:Nat->Nat->Itm}(h:OL w a n m O):OL w.drew a n m O:=h
theorem Vv(tb:ByteArray)(n2:Nat)(C:Nat->Clm)(n3:Nat)(V:Nat->Itm)(col:ByteArray)(n5:Nat)(E:Nat->Itm)(n6:Nat)(W:Nat->Itm)(n7:Nat)(m7:Nat->Nat)(O:Nat->Nat->Itm)
 (a2:Option Addr) (c2:Nat) (a3:Option Addr) (c3:Nat) (a5:Option Addr) (c5:Nat) (a6:Option Addr) (c6:Nat) (a7:Option Addr) (c7:Nat) (D:St) (hD:(⟨1,tb,n2,C,n3,V,col,n5,E,n6,W,n7,m7,O⟩:St)=D)
 (w:ο) (h:SM w ⟨1,tb,n2,C,n3,V,col,n5,E,n6,W,n7,m7,O⟩ ⟨a2,c2,a3,c3,a5,c5,a6,c6,a7,c7⟩) (hT:SpT w) :
 XR μ 52 #[χ #[ι κ 1,τ tb,σ a2 n2 c2,σ a3 n3 c3,τ col,σ a5 n5 c5,σ a6 n6 c6,σ a7 n7 c7]] w λe w'=>e=ρ (τ (BM D))/\υ w.heap.size w w':=by
 have hb0:=AE w (γ #[ι κ 1,τ tb,σ a2 n2 c2,σ a3 n3 c3,τ col,σ a5 n5 c5,σ a6 n6 c6,σ a7 n7 c7] 64);have H0:=h.later hb0;have q0:B8 (w.alloc (γ #[ι κ 1,τ tb,σ a2 n2 c2,σ a3 n3 c3,τ col,σ a5 n5 c5,σ a6 n6 c6,σ a7 n7 c7] 64)) w.heap.size ⟨1,tb,n2,C,n3,V,col,n5,E,n6,W,n7,m7,O⟩ ⟨a2,c2,a3,c3,a5,c5,a6,c6,a7,c7⟩:=B8.new w ⟨1,tb,n2,C,n3,V,col,n5,E,n6,W,n7,m7,O⟩ ⟨a2,c2,a3,c3,a5,c5,a6,c6,a7,c7⟩ 64;obtain⟨htb,hcol,-,-,-,-,-,l2,l3,l5,l6,l7⟩:=id h;dsimp only at htb hcol l2 l3 l5 l6 l7
 replace hD:Hid ((⟨1,tb,n2,C,n3,V,col,n5,E,n6,W,n7,m7,O⟩:St)=D):=hD;have HL:Hid (Bl D=AJ 1 1 ++ s8 tb ++ (AJ 1 n2 ++ AU (λj=>CZ (C j)) n2)):=by rw [←hD.out];rfl
 have HO:Hid (AL D=true->tb.size<=30/\n2<=20/\∀ j,j<n2->(C j).s.size<=30):=λx=>by
  rw [←hD.out] at x;exact⟨CB x,XC x rfl⟩
 go_enter Tryz.func52,Tryz.ntmps52
 go_wp2_with (go_at_call 54;refine(Gd _ tb n2 C n3 V col n5 E n6 W n7 m7 O a2 c2 a3 c3 a5 c5 a6 c6 a7 c7 D hD _ H0 (hT.later hb0)).mono ?_;rintro e w1 ⟨rfl,hb1⟩;have H1:=H0.later hb1;have Q1:=q0.later hb1;obtain⟨q0,q1,q2,q3,q4,q5,q6,q7⟩:=id Q1;dsimp only at q0 q1 q2 q3 q4 q5 q6 q7;replace hb1:=AA hb0 hb1;rcases hok:AL D)
 ·
  go_ret
  exact⟨congrArg (λx=>ρ (τ x)) (Cs hok).symm,hb1⟩
 obtain⟨htb',hn,hc⟩:=HO.out hok;have z1:(bs (AJ 1 1)).size<=1:=by rw [AI,AG];omega
 have z2:(bs (s8 tb)).size<=31:=by rw [AI,As];omega
 clear h H0 hb0 hT HO;have z3:(bs (AJ 1 n2 ++ AU (λj=>CZ (C j)) n2)).size<=100000:=by
  have:=BQ (B:=λj=>CZ (C j)) (c:=100) (n:=n2) (λj hj=>by have:=hc j hj;simp [CZ,As,AG];omega);rw [AI,XQ,AG];omega
 have y0:¬9223372036854775807<(bs (AJ 1 1)).size+(bs (s8 tb)).size:=by omega
 go_region_held3 (λw'=>w'.cell? ⟨w.heap.size,0,ν⟩=ς (ι κ 1)/\w'.cell? ⟨w.heap.size,1,ν⟩=ς (τ tb)) (first | exact⟨q0,q1⟩ | exact⟨r0,r1⟩ | exact⟨u0,u1⟩ | go_keep) (first | (go_at_call 94;refine(Wu _).mono ?_;rintro e w2 ⟨rfl,hb2⟩;have H2:=H1.later (Aa hb2);have Q2:=Q1.later (Aa hb2);replace hb2:=AA hb1 (Aa hb2);obtain⟨r0,r1,r2,r3,r4,r5,r6,r7⟩:=id Q2;dsimp only at r0 r1 r2 r3 r4 r5 r6 r7) | (go_at_call 95;refine(DC tb _ htb).mono ?_;rintro e w3 ⟨rfl,hb3⟩;have H3:=H2.later hb3;have Q3:=Q2.later hb3;replace hb3:=AA hb2 hb3;obtain⟨u0,u1,u2,u3,u4,u5,u6,u7⟩:=id Q3;dsimp only at u0 u1 u2 u3 u4 u5 u6 u7))
 go_wp2_with (go_at_call 96;refine(TT a2 n2 c2 C _ H3.co l2).mono ?_;rintro e w4 ⟨rfl,hb4⟩;replace hb4:=AA hb3 hb4)
 ·
  go_ret
  rename_i hx
  simp only [AI,XQ] at hx
  exact⟨congrArg (λx=>ρ (τ x)) (DF hok rfl (by rw [HL.out];simp only [AI,XQ];omega)).symm,hb4⟩
 ·
  go_ret
  rename_i hx
  simp only [AI,XQ] at hx
  exact⟨congrArg (λx=>ρ (τ x)) (Cg (s:=bs (AJ 1 1) ++ bs (s8 tb) ++ bs (AJ 1 n2 ++ AU (λj=>CZ (C j)) n2)) hok (by rw [HL.out];simp only [A3]) (by simp only [A3,AI,XQ];omega)).symm,hb4⟩
theorem Vu(tb:ByteArray)(n2:Nat)(C:Nat->Clm)(n3:Nat)(V:Nat->Itm)(col:ByteArray)(n5:Nat)(E:Nat->Itm)(n6:Nat)(W:Nat->Itm)(n7:Nat)(m7:Nat->Nat)(O:Nat->Nat->Itm)
 (a2:Option Addr) (c2:Nat) (a3:Option Addr) (c3:Nat) (a5:Option Addr) (c5:Nat) (a6:Option Addr) (c6:Nat) (a7:Option Addr) (c7:Nat) (D:St) (hD:(⟨2,tb,n2,C,n3,V,col,n5,E,n6,W,n7,m7,O⟩:St)=D)
 (w:ο) (h:SM w ⟨2,tb,n2,C,n3,V,col,n5,E,n6,W,n7,m7,O⟩ ⟨a2,c2,a3,c3,a5,c5,a6,c6,a7,c7⟩) (hT:SpT w) :
 XR μ 52 #[χ #[ι κ 2,τ tb,σ a2 n2 c2,σ a3 n3 c3,τ col,σ a5 n5 c5,σ a6 n6 c6,σ a7 n7 c7]] w λe w'=>e=ρ (τ (BM D))/\υ w.heap.size w w':=by
 have hb0:=AE w (γ #[ι κ 2,τ tb,σ a2 n2 c2,σ a3 n3 c3,τ col,σ a5 n5 c5,σ a6 n6 c6,σ a7 n7 c7] 64);have H0:=h.later hb0;have q0:B8 (w.alloc (γ #[ι κ 2,τ tb,σ a2 n2 c2,σ a3 n3 c3,τ col,σ a5 n5 c5,σ a6 n6 c6,σ a7 n7 c7] 64)) w.heap.size ⟨2,tb,n2,C,n3,V,col,n5,E,n6,W,n7,m7,O⟩ ⟨a2,c2,a3,c3,a5,c5,a6,c6,a7,c7⟩:=B8.new w ⟨2,tb,n2,C,n3,V,col,n5,E,n6,W,n7,m7,O⟩ ⟨a2,c2,a3,c3,a5,c5,a6,c6,a7,c7⟩ 64;obtain⟨htb,hcol,-,-,-,-,-,l2,l3,l5,l6,l7⟩:=id h;dsimp only at htb hcol l2 l3 l5 l6 l7
 replace hD:Hid ((⟨2,tb,n2,C,n3,V,col,n5,E,n6,W,n7,m7,O⟩:St)=D):=hD;have HL:Hid (Bl D=AJ 1 2 ++ s8 tb ++ (AJ 1 n3 ++ AU (λj=>A4 (V j)) n3)):=by rw [←hD.out];rfl
 have HO:Hid (AL D=true->tb.size<=30/\n3<=20/\∀ j,j<n3->(V j).s.size<=200):=λx=>by
  rw [←hD.out] at x;exact⟨CB x,XB x rfl⟩
 go_enter Tryz.func52,Tryz.ntmps52
 go_wp2_with (go_at_call 54;refine(Gd _ tb n2 C n3 V col n5 E n6 W n7 m7 O a2 c2 a3 c3 a5 c5 a6 c6 a7 c7 D hD _ H0 (hT.later hb0)).mono ?_;rintro e w1 ⟨rfl,hb1⟩;have H1:=H0.later hb1;have Q1:=q0.later hb1;obtain⟨q0,q1,q2,q3,q4,q5,q6,q7⟩:=id Q1;dsimp only at q0 q1 q2 q3 q4 q5 q6 q7;replace hb1:=AA hb0 hb1;rcases hok:AL D)
 ·
  go_ret
  exact⟨congrArg (λx=>ρ (τ x)) (Cs hok).symm,hb1⟩
 obtain⟨htb',hn,hc⟩:=HO.out hok;have z1:(bs (AJ 1 2)).size<=1:=by rw [AI,AG];omega
 have z2:(bs (s8 tb)).size<=31:=by rw [AI,As];omega
 clear h H0 hb0 hT HO;have z3:(bs (AJ 1 n3 ++ AU (λj=>A4 (V j)) n3)).size<=100000:=by
  have:=BQ (B:=λj=>A4 (V j)) (c:=300) (n:=n3) (λj hj=>by have:=hc j hj;unfold A4;rw [XQ,AG];split <;> simp [AG,CR] <;> omega);rw [AI,XQ,AG];omega
 have y0:¬9223372036854775807<(bs (AJ 1 2)).size+(bs (s8 tb)).size:=by omega
 go_region_held3 (λw'=>w'.cell? ⟨w.heap.size,0,ν⟩=ς (ι κ 2)/\w'.cell? ⟨w.heap.size,1,ν⟩=ς (τ tb)) (first | exact⟨q0,q1⟩ | exact⟨r0,r1⟩ | exact⟨u0,u1⟩ | go_keep) (first | (go_at_call 94;refine(Wt _).mono ?_;rintro e w2 ⟨rfl,hb2⟩;have H2:=H1.later (Aa hb2);have Q2:=Q1.later (Aa hb2);replace hb2:=AA hb1 (Aa hb2);obtain⟨r0,r1,r2,r3,r4,r5,r6,r7⟩:=id Q2;dsimp only at r0 r1 r2 r3 r4 r5 r6 r7) | (go_at_call 95;refine(DC tb _ htb).mono ?_;rintro e w3 ⟨rfl,hb3⟩;have H3:=H2.later hb3;have Q3:=Q2.later hb3;replace hb3:=AA hb2 hb3;obtain⟨u0,u1,u2,u3,u4,u5,u6,u7⟩:=id Q3;dsimp only at u0 u1 u2 u3 u4 u5 u6 u7))
 go_wp2_with (go_at_call 98;refine(TG a3 n3 c3 V _ H3.va l3).mono ?_;rintro e w4 ⟨rfl,hb4⟩;replace hb4:=AA hb3 hb4)
 ·
  go_ret
  rename_i hx
  simp only [AI,XQ] at hx
  exact⟨congrArg (λx=>ρ (τ x)) (DF hok rfl (by rw [HL.out];simp only [AI,XQ];omega)).symm,hb4⟩
 ·
  go_ret
  rename_i hx
  simp only [AI,XQ] at hx
  exact⟨congrArg (λx=>ρ (τ x)) (Cg (s:=bs (AJ 1 2) ++ bs (s8 tb) ++ bs (AJ 1 n3 ++ AU (λj=>A4 (V j)) n3)) hok (by rw [HL.out];simp only [A3]) (by simp only [A3,AI,XQ];omega)).symm,hb4⟩
theorem Vs(tb:ByteArray)(n2:Nat)(C:Nat->Clm)(n3:Nat)(V:Nat->Itm)(col:ByteArray)(n5:Nat)(E:Nat->Itm)(n6:Nat)(W:Nat->Itm)(n7:Nat)(m7:Nat->Nat)(O:Nat->Nat->Itm)
 (a2:Option Addr) (c2:Nat) (a3:Option Addr) (c3:Nat) (a5:Option Addr) (c5:Nat) (a6:Option Addr) (c6:Nat) (a7:Option Addr) (c7:Nat) (D:St) (hD:(⟨4,tb,n2,C,n3,V,col,n5,E,n6,W,n7,m7,O⟩:St)=D)
 (w:ο) (h:SM w ⟨4,tb,n2,C,n3,V,col,n5,E,n6,W,n7,m7,O⟩ ⟨a2,c2,a3,c3,a5,c5,a6,c6,a7,c7⟩) (hT:SpT w) :
 XR μ 52 #[χ #[ι κ 4,τ tb,σ a2 n2 c2,σ a3 n3 c3,τ col,σ a5 n5 c5,σ a6 n6 c6,σ a7 n7 c7]] w λe w'=>e=ρ (τ (BM D))/\υ w.heap.size w w':=by
 have hb0:=AE w (γ #[ι κ 4,τ tb,σ a2 n2 c2,σ a3 n3 c3,τ col,σ a5 n5 c5,σ a6 n6 c6,σ a7 n7 c7] 64);have H0:=h.later hb0;have q0:B8 (w.alloc (γ #[ι κ 4,τ tb,σ a2 n2 c2,σ a3 n3 c3,τ col,σ a5 n5 c5,σ a6 n6 c6,σ a7 n7 c7] 64)) w.heap.size ⟨4,tb,n2,C,n3,V,col,n5,E,n6,W,n7,m7,O⟩ ⟨a2,c2,a3,c3,a5,c5,a6,c6,a7,c7⟩:=B8.new w ⟨4,tb,n2,C,n3,V,col,n5,E,n6,W,n7,m7,O⟩ ⟨a2,c2,a3,c3,a5,c5,a6,c6,a7,c7⟩ 64;obtain⟨htb,hcol,-,-,-,-,-,l2,l3,l5,l6,l7⟩:=id h;dsimp only at htb hcol l2 l3 l5 l6 l7
 replace hD:Hid ((⟨4,tb,n2,C,n3,V,col,n5,E,n6,W,n7,m7,O⟩:St)=D):=hD;have HL:Hid (Bl D=AJ 1 4 ++ s8 tb ++ (Am W n6)):=by rw [←hD.out];rfl
 have HO:Hid (AL D=true->tb.size<=30/\n6<=100/\∀ j,j<n6->(W j).s.size<=200):=λx=>by
  rw [←hD.out] at x;exact⟨CB x,W9 x rfl⟩
 go_enter Tryz.func52,Tryz.ntmps52
 go_wp2_with (go_at_call 54;refine(Gd _ tb n2 C n3 V col n5 E n6 W n7 m7 O a2 c2 a3 c3 a5 c5 a6 c6 a7 c7 D hD _ H0 (hT.later hb0)).mono ?_;rintro e w1 ⟨rfl,hb1⟩;have H1:=H0.later hb1;have Q1:=q0.later hb1;obtain⟨q0,q1,q2,q3,q4,q5,q6,q7⟩:=id Q1;dsimp only at q0 q1 q2 q3 q4 q5 q6 q7;replace hb1:=AA hb0 hb1;rcases hok:AL D)
 ·
  go_ret
  exact⟨congrArg (λx=>ρ (τ x)) (Cs hok).symm,hb1⟩
 obtain⟨htb',hn6,ht6⟩:=HO.out hok;have z1:(bs (AJ 1 4)).size<=1:=by rw [AI,AG];omega
 have z2:(bs (s8 tb)).size<=31:=by rw [AI,As];omega
 clear h H0 hb0 hT HO;have z3:(bs (Am W n6)).size<=30002:=by rw [AI];exact BX hn6 ht6
 have y0:¬9223372036854775807<(bs (AJ 1 4)).size+(bs (s8 tb)).size:=by omega
 go_region_held3 (λw'=>w'.cell? ⟨w.heap.size,0,ν⟩=ς (ι κ 4)/\w'.cell? ⟨w.heap.size,1,ν⟩=ς (τ tb)) (first | exact⟨q0,q1⟩ | exact⟨r0,r1⟩ | exact⟨u0,u1⟩ | go_keep) (first | (go_at_call 94;refine(Wq _).mono ?_;rintro e w2 ⟨rfl,hb2⟩;have H2:=H1.later (Aa hb2);have Q2:=Q1.later (Aa hb2);replace hb2:=AA hb1 (Aa hb2);obtain⟨r0,r1,r2,r3,r4,r5,r6,r7⟩:=id Q2;dsimp only at r0 r1 r2 r3 r4 r5 r6 r7) | (go_at_call 95;refine(DC tb _ htb).mono ?_;rintro e w3 ⟨rfl,hb3⟩;have H3:=H2.later hb3;have Q3:=Q2.later hb3;replace hb3:=AA hb2 hb3;obtain⟨u0,u1,u2,u3,u4,u5,u6,u7⟩:=id Q3;dsimp only at u0 u1 u2 u3 u4 u5 u6 u7))
 go_wp2_with (go_at_call 100;refine(Ie a6 n6 c6 W _ H3.wh l6).mono ?_;rintro e w4 ⟨rfl,hb4⟩;replace hb4:=AA hb3 hb4)
 go_ret
 exact⟨congrArg (λx=>ρ (τ x)) (Cg (s:=bs (AJ 1 4) ++ bs (s8 tb) ++ bs (Am W n6)) hok (by rw [HL.out];simp only [A3]) (by rw [ByteArray.size_append,ByteArray.size_append];omega)).symm,hb4⟩
theorem Vw(k:Int)(e1:¬k=1)(e2:¬k=2)(e3:¬k=3)(e4:¬k=4)(e5:¬k=5)(tb:ByteArray)(n2:Nat)(C:Nat->Clm)(n3:Nat)(V:Nat->Itm)(col:ByteArray)(n5:Nat)(E:Nat->Itm)(n6:Nat)(W:Nat->Itm)(n7:Nat)(m7:Nat->Nat)(O:Nat->Nat->Itm)
 (a2:Option Addr) (c2:Nat) (a3:Option Addr) (c3:Nat) (a5:Option Addr) (c5:Nat) (a6:Option Addr) (c6:Nat) (a7:Option Addr) (c7:Nat) (D:St) (hD:(⟨k,tb,n2,C,n3,V,col,n5,E,n6,W,n7,m7,O⟩:St)=D)
 (w:ο) (h:SM w ⟨k,tb,n2,C,n3,V,col,n5,E,n6,W,n7,m7,O⟩ ⟨a2,c2,a3,c3,a5,c5,a6,c6,a7,c7⟩) (hT:SpT w) :
 XR μ 52 #[χ #[ι κ k,τ tb,σ a2 n2 c2,σ a3 n3 c3,τ col,σ a5 n5 c5,σ a6 n6 c6,σ a7 n7 c7]] w λe w'=>e=ρ (τ (BM D))/\υ w.heap.size w w':=by
 have hb0:=AE w (γ #[ι κ k,τ tb,σ a2 n2 c2,σ a3 n3 c3,τ col,σ a5 n5 c5,σ a6 n6 c6,σ a7 n7 c7] 64);have H0:=h.later hb0;have q0:B8 (w.alloc (γ #[ι κ k,τ tb,σ a2 n2 c2,σ a3 n3 c3,τ col,σ a5 n5 c5,σ a6 n6 c6,σ a7 n7 c7] 64)) w.heap.size ⟨k,tb,n2,C,n3,V,col,n5,E,n6,W,n7,m7,O⟩ ⟨a2,c2,a3,c3,a5,c5,a6,c6,a7,c7⟩:=B8.new w ⟨k,tb,n2,C,n3,V,col,n5,E,n6,W,n7,m7,O⟩ ⟨a2,c2,a3,c3,a5,c5,a6,c6,a7,c7⟩ 64;obtain⟨htb,hcol,-,-,-,-,-,l2,l3,l5,l6,l7⟩:=id h;dsimp only at htb hcol l2 l3 l5 l6 l7
 replace hD:Hid ((⟨k,tb,n2,C,n3,V,col,n5,E,n6,W,n7,m7,O⟩:St)=D):=hD;have HZ:AL D=false:=by rw [←hD.out];exact OT ⟨k,tb,n2,C,n3,V,col,n5,E,n6,W,n7,m7,O⟩ e1 e2 e3 e4 e5
 go_enter Tryz.func52,Tryz.ntmps52
 go_wp2_with (go_at_call 54;refine(Gd _ tb n2 C n3 V col n5 E n6 W n7 m7 O a2 c2 a3 c3 a5 c5 a6 c6 a7 c7 D hD _ H0 (hT.later hb0)).mono ?_;rintro e w1 ⟨rfl,hb1⟩;have H1:=H0.later hb1;have Q1:=q0.later hb1;obtain⟨q0,q1,q2,q3,q4,q5,q6,q7⟩:=id Q1;dsimp only at q0 q1 q2 q3 q4 q5 q6 q7;replace hb1:=AA hb0 hb1;rcases hok:AL D)
 ·
  go_ret
  exact⟨congrArg (λx=>ρ (τ x)) (Cs hok).symm,hb1⟩
 · rw [HZ] at hok;cases hok
