import Derived.Test.YtfnfdllflgmhnaaGreatDoorNg
import Derived.Deep.AppendLies
import Derived.Deep.RegionHeld3
import Derived.Deep.DeepCutAuto
open Array renaming getElem?_eq_some_iff → XS
open Go renaming Calls → XR, World → ο, Value → XU, bodyPost_ret → XL, heap_alloc_new → η, wpAnyH_done → XW, wp_region_held_drew → XO, cell_of_row → ε
open Go.Ending renaming returned → ρ
open Go.Ground renaming data → φ, phase → ξ
open Go.IntKind renaming i64 → κ
open Go.Obj renaming cells → γ
open Go.Operand renaming tmp → δ
open Go.Proofs.Tryz renaming prog → μ
open Go.RowKit renaming Below → υ, intOf → XX
open Go.RowKit.Below renaming refl → Xa
open Go.Value renaming agg → χ, int → ι, slice → σ, string → τ, bool → β, tuple → θ
open Go.World renaming news_of_block → XP, ownsRow_made → Xb
open Nat renaming add_zero → Xm, le_refl → XK
open Option renaming none → ν, some → ς
open Option.some renaming inj → XM
open Or renaming inr → Xi, inl → Xc
namespace Go.Proofs.YtfnfdllflgmhnaaGreatDoor
open Go.RowKit Go.Maps Go.WideMaps
set_option maxRecDepth 20000
set_option maxHeartbeats 4000000
def NL(w:ο)(a:Option Addr)(n:Nat)(S:Nat->Tr):Prop:=
 ∀ k,k<n->∃ b off,a=ς ⟨b,off,ν⟩/\w.cell? ⟨b,off+k,ν⟩=ς (.iface (S k).ty (S k).pay)
theorem NL.later{w w':ο}{a:Option Addr}{n:Nat}{S:Nat->Tr}(h:NL w a n S)(hb:υ w.heap.size w w'):NL w' a n S:=λk hk=>by
 obtain⟨b,off,e,h0⟩:=h k hk;exact⟨b,off,e,AB hb h0⟩
def Ef(o m:Int)(s:ByteArray)(S:Nat->Tr):Tr:=
 if o=1 then .num m else if o=2 then .txt s else if o=3 then .col s else if o=11∨o=13 then .one o (S 0) else .two o (S 0) (S 1)
theorem WX(w:ο)(n:Nat):υ w.heap.size w (w.drewN n):=⟨rfl,rfl,rfl,XK _,λ_ _=>rfl⟩
theorem Ge(o m:Int)(s:ByteArray)(a:Option Addr)(n c:Nat)(S:Nat->Tr)(w:ο)(h:NL w a n S)(hn:DT o m s=n)(hcap:n<=1048576):XR μ 193 #[χ #[ι κ o,ι κ m,τ s],σ a n c] w λe w'=>e=ρ (.iface (Ef o m s S).ty (Ef o m s S).pay)/\υ w.heap.size w w':=by
 have hb0:=AE w (γ #[ι κ o,ι κ m,τ s] 135);go_enter Tryz.func193,Tryz.ntmps193
 by_cases h1:o=1
 ·
  subst h1;go_wp2;go_ret
  exact⟨rfl,hb0⟩
 have h1':(o == 1)=false:=by simp [h1]
 by_cases h2:o=2
 ·
  subst h2;go_wp2;go_ret
  exact⟨rfl,hb0⟩
 have h2':(o == 2)=false:=by simp [h2]
 by_cases h3:o=3
 ·
  subst h3;go_wp2;go_ret
  exact⟨rfl,hb0⟩
 have h3':(o == 3)=false:=by simp [h3]
 by_cases h4:o=11∨o=13
 ·
  have e1:n=1:=by
   have:DT o m s=1∨DT o m s<0∨DT o m s=2:=by unfold DT;(repeat' split) <;> omega
   have h5:DT o m s≠2:=by
    unfold DT;have:DI o=false:=by rcases h4 with rfl | rfl <;> rfl
    simp [this]
    (repeat' split) <;> omega
   omega
  subst e1;obtain⟨b,off,rfl,c0⟩:=h.later hb0 0 (by omega);rw [Xm] at c0;have hm:Ef o m s S=.one o (S 0):=by simp [Ef,h1,h2,h3,h4]
  rw [hm];rcases h4 with rfl | rfl
  all_goals
   go_wp2;go_quiet (fail)
   go_wp2;go_ret
   exact⟨rfl,AA hb0 (WX _ _)⟩
 ·
  have h11:(o == 11)=false:=by simp;omega
  have h13:(o == 13)=false:=by simp;omega
  have e2:n=2:=by
   have:DT o m s=2∨DT o m s<0:=by
    unfold DT;rw [if_neg (by omega),if_neg (by omega)];split <;> omega
   omega
  subst e2;obtain⟨b,off,rfl,c0⟩:=h.later hb0 0 (by omega);rw [Xm] at c0;obtain⟨b',off',e,c1⟩:=h.later hb0 1 (by omega);obtain⟨rfl,rfl⟩:b=b'/\off=off':=by simpa using e
  have hm:Ef o m s S=.two o (S 0) (S 1):=by simp [Ef,h1,h2,h3,h4]
  rw [hm];go_wp2;go_quiet (fail)
  go_wp2;go_ret
  exact⟨rfl,AA hb0 (WX _ _)⟩
def DH(i:Itm):Bool:=(!(i.o == 1) || C2 i.m) && (!(i.o == 2) || BD i.s) && (!(i.o == 3) || AV i.s)
theorem JD(i:Itm):Av i.o i.m i.s=(decide (0<=DT i.o i.m i.s) && DH i):=by
 obtain⟨o,m,s⟩:=i;rw [Bool.eq_iff_iff];simp only [Av,DH,DT,DI,Bb]
 by_cases h1:o=1
 · subst h1;by_cases hs:s.size=0 <;> simp [hs]
 by_cases h2:o=2
 · subst h2;by_cases hm:m=0 <;> simp [hm]
 by_cases h3:o=3
 · subst h3;by_cases hm:m=0 <;> simp [hm]
 by_cases hm:m=0
 ·
  by_cases hs:s.size=0
  ·
   simp [h1,h2,h3,hm,hs]
   (repeat' split) <;> omega
  · simp [h1,h2,h3,hm,hs]
 · simp [h1,h2,h3,hm]
theorem Gq{o:Int}(h:DI o=true):o≠1/\o≠2/\o≠3/\o≠11/\o≠13/\3<o:=by
 simp [DI,Bb] at h
 omega
theorem E6{i:Itm}{q:Int}(h:DT i.o i.m i.s=q)(h0:0<=q):(q=0/\(i.o=1∨i.o=2∨i.o=3))∨(q=1/\(i.o=11∨i.o=13))∨(q=2/\DI i.o=true):=by
 unfold DT at h;split at h
 · left;omega
 ·
  split at h
  · right;left;omega
  ·
   split at h
   ·
    rename_i h3
    exact Xi (Xi ⟨h.symm,h3.2.2⟩)
   · omega
theorem Kv(i:Itm)(h:0<=DT i.o i.m i.s):DT i.o i.m i.s=Aj i.o:=by
 unfold Aj;rcases E6 rfl h with ⟨e,h1⟩ | ⟨e,h1⟩ | ⟨e,h1⟩
 · rw [e,if_pos (by omega)]
 · rw [e,if_neg (by omega),if_pos h1]
 · have:=Gq h1;rw [e,if_neg (by omega),if_neg (by omega)]
def sh(I:Nat->Itm):Nat->Option Int
 | 0=>ς 0
 | k+1=>match sh I k with
  | none=>ν
  | some d=>if 0<=DT (I k).o (I k).m (I k).s/\DT (I k).o (I k).m (I k).s<=d then ς (d+(1 - DT (I k).o (I k).m (I k).s)) else ν
def lf(I:Nat->Itm):Nat->Bool
 | 0=>true
 | k+1=>lf I k && DH (I k)
theorem Nf(I:Nat->Itm):∀ k,ex I k=if lf I k=true then sh I k else ν
 | 0=>rfl
 | k+1=>by
  rw [ex,Nf I k,lf,sh];by_cases hl:lf I k=true
  ·
   rw [if_pos hl,hl];cases hs:sh I k with
   | none=>simp
   | some d=>
    simp only [JD (I k)]
    by_cases h0:0<=DT (I k).o (I k).m (I k).s
    · rw [←Kv (I k) h0];by_cases hf:DH (I k)=true <;> simp [h0,hf]
    · simp [h0]
  · simp [hl]
theorem OU{I:Nat->Itm}{k:Nat}(h:sh I k=ν):∀ n,k<=n->sh I n=ν:=by
 intro n hn;induction n with
 | zero=>
  obtain rfl:k=0:=by omega
  exact h
 | succ n ih=>
  by_cases e:k=n+1
  · subst e;exact h
  · rw [sh,ih (by omega)]
theorem Nd{I:Nat->Itm}{n:Nat}(h:sh I n≠ς 1):Ag I n=false:=by
 simp only [Ag,Nf]
 by_cases hl:lf I n=true <;> simp [hl,h]
theorem P8{I:Nat->Itm}{n:Nat}(h:sh I n=ς 1)(hn:n<=100):Ag I n=lf I n:=by
 have h1:1<=n:=by
  by_cases e:n=0
  · subst e;simp [sh] at h
  · omega
 simp only [Ag,Nf,Bb]
 by_cases hl:lf I n=true
 · simp [hl,h];omega
 · simp [hl]
theorem Ne{I:Nat->Itm}{n:Nat}(hn:100<n):Ag I n=false:=by
 simp only [Ag,Bb]
 simp
 omega
def Tr.val(t:Tr):XU:=.iface t.ty t.pay
theorem M4(i:Itm)(S:Nat->Tr)(q:Nat)(hq:DT i.o i.m i.s=q):(Ef i.o i.m i.s S).ok=(DH i && ((List.range q).all λj=>(S j).ok)):=by
 obtain⟨o,m,s⟩:=i;rcases E6 hq (by omega) with ⟨e,h1⟩ | ⟨e,h1⟩ | ⟨e,h1⟩
 ·
  obtain rfl:q=0:=by omega
  rcases h1 with h1 | h1 | h1 <;> (dsimp only at h1;subst h1;simp [Ef,DH,Tr.num,Tr.txt,Tr.col])
 ·
  obtain rfl:q=1:=by omega
  rcases h1 with h1 | h1 <;> (dsimp only at h1;subst h1;simp [Ef,DH,Tr.one,List.range_succ])
 ·
  obtain rfl:q=2:=by omega
  dsimp only at h1
  have:=Gq h1;simp [Ef,DH,Tr.two,List.range_succ,this]
theorem KG(i:Itm)(S:Nat->Tr)(q:Nat)(hq:DT i.o i.m i.s=q)(hs:i.s.size<=1048576)(h:∀ j,j<q->(S j).fit):(Ef i.o i.m i.s S).fit:=by
 obtain⟨o,m,s⟩:=i;rcases E6 hq (by omega) with ⟨e,h1⟩ | ⟨e,h1⟩ | ⟨e,h1⟩
 ·
  rcases h1 with h1 | h1 | h1 <;> (dsimp only at h1;subst h1)
  · exact(show Ef 1 m s S=.num m by simp [Ef]) ▸ P6 m
  · exact(show Ef 2 m s S=.txt s by simp [Ef]) ▸ P4 s hs
  · exact(show Ef 3 m s S=.col s by simp [Ef]) ▸ P7 s hs
 ·
  obtain rfl:q=1:=by omega
  rcases h1 with h1 | h1 <;> (dsimp only at h1;subst h1)
  · exact(show Ef 11 m s S=.one 11 (S 0) by simp [Ef]) ▸ KS 11 (h 0 (by omega))
  · exact(show Ef 13 m s S=.one 13 (S 0) by simp [Ef]) ▸ KS 13 (h 0 (by omega))
 ·
  obtain rfl:q=2:=by omega
  dsimp only at h1
  have h2:=Gq h1;exact(show Ef o m s S=.two o (S 0) (S 1) by simp [Ef,h2]) ▸ P5 o (h 0 (by omega)) (h 1 (by omega))
set_option maxHeartbeats 8000000
abbrev VU:Oper:=⟨ς 33,.move (δ 4),254,"l4_stm.go:341",#[],ν⟩
abbrev VT:Oper:=⟨ς 34,.move (δ 8),3,"l4_stm.go:341",#[],ν⟩
abbrev VS:Oper:=⟨ς 35,.slice 254 (δ 33) ν (ς (δ 34)) ν,254,"l4_stm.go:341",#[⟨0,φ⟩,⟨1,φ⟩],ν⟩
abbrev VR:Oper:=⟨ς 36,.load 135 (δ 6),135,"l4_stm.go:341",#[],ν⟩
abbrev VQ:Oper:=⟨ς 37,.move (δ 4),254,"l4_stm.go:341",#[],ν⟩
abbrev VP:Oper:=⟨ς 38,.move (δ 8),3,"l4_stm.go:341",#[],ν⟩
abbrev VO:Oper:=⟨ς 39,.slice 254 (δ 37) (ς (δ 38)) ν ν,254,"l4_stm.go:341",#[⟨4,φ⟩,⟨5,φ⟩],ν⟩
abbrev VN:Oper:=⟨ς 40,.call ⟨.value (.func 193),#[δ 36,δ 39],#[135,254]⟩,221,"l4_stm.go:341",#[⟨3,φ⟩,⟨6,φ⟩],ν⟩
abbrev VM:Oper:=⟨ς 41,.buildSlice 254 1 #[(0,δ 40)],254,"l4_stm.go:341",#[⟨7,φ⟩],ν⟩
abbrev VL:Oper:=⟨ς 42,.call ⟨.builtin .append,#[δ 35,δ 41],#[254,254]⟩,254,"l4_stm.go:341",#[⟨2,φ⟩,⟨8,φ⟩,⟨7,.chain⟩],ν⟩
abbrev RT:Oper:=⟨ς 4,.assign (δ 42),254,"l4_stm.go:341",#[⟨9,φ⟩,⟨9,.chain⟩,⟨0,ξ⟩,⟨1,ξ⟩,⟨2,ξ⟩,⟨3,ξ⟩,⟨4,ξ⟩,⟨5,ξ⟩,⟨6,ξ⟩,⟨7,ξ⟩,⟨8,ξ⟩,⟨9,ξ⟩],ν⟩
theorem AH{w w':ο}{base e size n:Nat}{v:XU}{xs:List XU}(h:w.ownsRow base e size v n xs)(hb:υ w.heap.size w w'):w'.ownsRow base e size v n xs:=by
 obtain⟨hl,hh⟩:=h;refine⟨hl,?_⟩;rcases hh with hh | ⟨gg,cap,cur,e1,e2,e3,e4⟩
 · exact Xc hh
 · exact Xi ⟨gg,cap,cur,e1,e2,(hb.block gg (XS.1 e3).1).trans e3,e4⟩
theorem Fr{w:ο}{base e g n cap r:Nat}{xs:List XU}(h:w.ownsRow base e 1 (σ (ς ⟨g,0,ν⟩) n cap) n xs)(hr:r<=n):w.ownsRow base e 1 (σ (ς ⟨g,0,ν⟩) r cap) r (xs.take r):=by
 obtain⟨hl,hh⟩:=h;refine⟨by simp;omega,?_⟩;rcases hh with ⟨hh,_⟩ | ⟨gg,cap',cur,e1,e2,e3,e4,e5,e6,e7⟩
 · simp at hh
 ·
  simp only [Value.slice.injEq,Option.some.injEq,Addr.mk.injEq,and_true,true_and] at e1
  obtain⟨rfl,rfl⟩:=e1;refine Xi ⟨g,cap,cur,rfl,e2,e3,by omega,e5,e6,?_⟩;rw [←e7,List.take_take,Nat.min_eq_left (by omega),Nat.mul_one]
theorem KQ{w:ο}{B:Nat}{e:TypeId}{size g n cap:Nat}{xs:List XU}(h:w.ownsRow B e size (σ (ς ⟨g,0,ν⟩) n cap) n xs):B<=g:=
 (h.lt g rfl).1
theorem PX{w:ο}{base e g n cap:Nat}{xs:List XU}(h:w.ownsRow base e 1 (σ (ς ⟨g,0,ν⟩) n cap) n xs):n<=cap/\cap<=maxLen:=by
 obtain⟨hl,hh⟩:=h;rcases hh with ⟨hh,_⟩ | ⟨gg,cap',cur,e1,e2,e3,e4,e5,e6,e7⟩
 · simp at hh
 ·
  simp only [Value.slice.injEq,Option.some.injEq,Addr.mk.injEq,and_true,true_and] at e1
  obtain⟨rfl,rfl⟩:=e1;exact⟨e4,e5⟩
theorem Bu(v:XU)(h:v.oneCell'=true):∀ u∈[v],u.oneCell'=true:=by
 intro u hu;simp at hu;subst hu;exact h
structure Bx3(B:Nat)(i:Itm)(w:ο):Prop where
 c0:w.cell? ⟨B,0,ν⟩=ς (ι κ i.o)
 c1:w.cell? ⟨B,1,ν⟩=ς (ι κ i.m)
 c2:w.cell? ⟨B,2,ν⟩=ς (τ i.s)
theorem Bx3.later{B:Nat}{i:Itm}{w w':ο}(h:Bx3 B i w)(hb:υ w.heap.size w w'):Bx3 B i w':=⟨AB hb h.c0,AB hb h.c1,AB hb h.c2⟩
theorem Bx3.drew{B:Nat}{i:Itm}{w:ο}(h:Bx3 B i w):Bx3 B i w.drew:=⟨h.c0,h.c1,h.c2⟩
theorem Bx3.grown{B:Nat}{i:Itm}{w w':ο}{r:Option Nat}(h:Bx3 B i w)(hg:w.grownBy w' r)(hr:ς B≠r):Bx3 B i w':=⟨hg.cell h.c0 hr,hg.cell h.c1 hr,hg.cell h.c2 hr⟩
theorem Tryz.infoN:(Tryz.prog.info? 221).map (λi=>(i.zero,i.size,i.bytes))=ς (ς .nilIface,1,16):=by kernel_rfl
theorem S4{w:ο}{base e g n cap r:Nat}{L:List Tr}{a:Option Addr}(h:w.ownsRow base e 1 (σ (ς ⟨g,0,ν⟩) n cap) n (L.map Tr.val))(hn:L.length=n)(q:Nat)(hq:r+q=n)(ha:0<q->a=ς ⟨g,r,ν⟩):NL w a q (λj=>L.getD (r+j) (.num 0)):=λk hk=>by
 refine⟨g,r,ha (by omega),?_⟩;have:=h.cellAt (r+k) (by omega);rw [this];have hlt:r+k<L.length:=by omega
 have e:L.getD (r+k) (.num 0)=L[r+k]:=by simp [hlt]
 rw [List.getElem?_map,List.getElem?_eq_getElem hlt];show ς _=_
 dsimp only
 rw [e];rfl
theorem Aa{w w':ο}(h:υ w.drew.heap.size w.drew w'):υ w.heap.size w w':=⟨h.os,h.tape,h.output,h.size,h.block⟩
theorem NL.drew{w:ο}{a:Option Addr}{n:Nat}{S:Nat->Tr}(h:NL w a n S):NL w.drew a n S:=h
theorem Gi(L:List Tr)(r q:Nat)(h:r+q=L.length):L.all Tr.ok=((L.take r).all Tr.ok && (List.range q).all λj=>(L.getD (r+j) (.num 0)).ok):=by
 have e:L=L.take r ++ L.drop r:=(List.take_append_drop r L).symm;have e2:(List.range q).map (λj=>L.getD (r+j) (.num 0))=L.drop r:=by
  apply List.ext_getElem
  · simp;omega
  ·
   intro i h1 h2;simp at h1
   simp
   rw [List.getElem?_eq_getElem (by omega)];rfl
 have e3:((List.range q).all λj=>(L.getD (r+j) (.num 0)).ok)=(L.drop r).all Tr.ok:=by
  rw [←e2,List.all_map];rfl
 rw [e3,←List.all_append,←e]
def LJ(I:Nat->Itm):Nat->List Tr
 | 0=>[]
 | k+1=>(LJ I k).take ((LJ I k).length - (DT (I k).o (I k).m (I k).s).toNat) ++ [Ef (I k).o (I k).m (I k).s (λj=>(LJ I k).getD ((LJ I k).length - (DT (I k).o (I k).m (I k).s).toNat+j) (.num 0))]
theorem IC{I:Nat->Itm}{k:Nat}{L:List Tr}{r q:Nat}{nd:Tr}(h:L=LJ I k)(hq:DT (I k).o (I k).m (I k).s=(q:Int))(hr:r+q=L.length)(hn:Ef (I k).o (I k).m (I k).s (λj=>L.getD (r+j) (.num 0))=nd):L.take r ++ [nd]=LJ I (k+1):=by
 subst h;rw [LJ,hq];have e:(LJ I k).length - (q:Int).toNat=r:=by omega
 rw [e,←hn]
theorem Vo(a:Option Addr)(n c:Nat)(I:Nat->Itm)(w:ο)(h:IL w a n I)(hn:n<=1048576):XR μ 157 #[σ a n c] w λe w'=>υ w.heap.size w w' /\
 ((e=ρ (θ #[.nilIface,β false])/\Ag I n=false)∨(∃ t:Tr,e=ρ (θ #[t.val,β true])/\t.fit/\Ag I n=t.ok/\LJ I n=[t])):=by
 have hb0:=Xa w.heap.size w;obtain⟨i0,hi,hz0,hz1,hz2⟩:=info_parts Tryz.infoN;have HI:Hid (Tryz.prog.info? 221=ς i0):=hi;clear hi;go_enter Tryz.func157,Tryz.ntmps157
 go_wp2
 · exact XL (v:=θ #[.nilIface,β false]) (by simp [results,Tryz.results157,go_sem]) rfl ⟨hb0,Xc ⟨rfl,Ne (by omega)⟩⟩
 have H100:Hid (n<=100):=(by omega:n<=100);go_loopw [4,15] (λv i wr=>∃ (k:Nat) (L:List Tr) (g cap:Nat),k<=n/\i=ι κ k/\v=σ (ς ⟨g,0,ν⟩) L.length cap/\wr.ownsRow w.heap.size 221 1 (σ (ς ⟨g,0,ν⟩) L.length cap) L.length (L.map Tr.val)/\sh I k=ς (L.length:Int)/\L.all Tr.ok=lf I k/\(∀ t∈L,t.fit)/\L.length<=k/\L=LJ I k/\υ w.heap.size w wr) (λ_ i _=>n - (XX i).toNat)
 case atStart=>
  refine⟨0,[],w.heap.size,0,by omega,rfl,rfl,?_,rfl,rfl,by simp,by simp,rfl,AE _ _⟩;exact Xb w #[] 0 (XK _) (by unfold maxLen;omega) rfl
 case round=>
  obtain⟨k,L,g,cap,hk,rfl,rfl,hO,hsh,hok,hfit,hLk,hstk,hb⟩:=hrel;have HSTK:Hid (L=LJ I k):=hstk;clear hstk;by_cases hlt:k<n
  ·
   obtain⟨b,off,rfl,c0,c1,c2,hs⟩:=h.later hb k hlt;have hst:sh I (k+1)=if 0<=DT (I k).o (I k).m (I k).s/\DT (I k).o (I k).m (I k).s<=L.length then ς (L.length+(1 - DT (I k).o (I k).m (I k).s)) else ν:=by rw [sh,hsh]
   have hgg:=KQ hO;have hgl:=(hO.lt g rfl).2;have hcp:=PX hO;have hO1:=hO.alloc (γ #[ι κ (I k).o,ι κ (I k).m,τ (I k).s] 135);by_cases hq0:0<=DT (I k).o (I k).m (I k).s/\DT (I k).o (I k).m (I k).s<=L.length
   ·
    obtain⟨q,hq⟩:∃ q:Nat,DT (I k).o (I k).m (I k).s=q:=⟨(DT (I k).o (I k).m (I k).s).toNat,by omega⟩;obtain⟨r,hr⟩:∃ r:Nat,r+q=L.length:=⟨L.length - q,by omega⟩;rw [if_pos hq0,hq] at hst;have hLL:(L.length:Int)=(r:Int)+q:=by omega
    have d1:decide ((q:Int)<0)=false:=by simp
    have d2:decide ((L.length:Int)<(q:Int))=false:=by simp;omega
    have d3:wrap64 ((L.length:Int) - (q:Int))=(r:Int):=by unfold wrap64;have:=H100.out;omega
    go_wp2_with (go_at_call 192;refine(Cy (I k).o (I k).m (I k).s _).mono ?_;rw [hq];rintro e w2 ⟨rfl,hb2⟩)
    have hX2:Bx3 wr.heap.size (I k) w2:=by
     obtain⟨x0,x1,x2⟩:=DQ hb2;exact⟨x0,x1,x2⟩
    have hO2:=AH hO1 hb2;have hbw2:=bj hb hb2;have hs2:=hb2.size;have hs2':(wr.alloc (γ #[ι κ (I k).o,ι κ (I k).m,τ (I k).s] 135)).heap.size=wr.heap.size+1:=by simp
    have i0r:(0:Int)<=(r:Int):=by omega
    have i1r:(r:Int)<=(cap:Int):=by omega
    have i2r:(r:Int)<=(L.length:Int):=by omega
    have i3r:r<=cap:=by omega
    have i4r:(L.length:Int)<=(cap:Int):=by omega
    clear hb2 hO1 hO c0 c1 c2 d1 d2 d3 hs2' hLL;by_cases hcr:cap=r
    ·
     subst hcr;refine XO (S:=Bx3 wr.heap.size (I k)) (by kernel_rfl) hX2.drew (λ_=>?_);refine wpAnyH_take (i:=0) (oi:=VU) (v:=σ (ς ⟨g,0,ν⟩) L.length cap) rfl (by kernel_rfl) (by kernel_rfl) (by kernel_rfl) (λ_ _ _ h=>h) (Xc ⟨by rfl,λw jS=>by go_simp⟩) hX2.drew ?_;simp only [zS]
     refine wpAnyH_take (i:=1) (oi:=VT) (v:=ι κ (cap:Int)) rfl (by kernel_rfl) (by kernel_rfl) (by kernel_rfl) (λ_ _ _ h=>h) (Xc ⟨by rfl,λw jS=>by go_simp⟩) hX2.drew ?_;simp only [zS]
     refine wpAnyH_take (i:=2) (oi:=VS) (v:=σ (ς ⟨g,0,ν⟩) cap cap) rfl (by kernel_rfl) (by kernel_rfl) (by kernel_rfl) (λ_ _ _ h=>h) (Xc ⟨by rfl,λw jS=>by go_simp⟩) hX2.drew ?_;simp only [zS]
     refine wpAnyH_take (i:=3) (oi:=VR) (v:=χ #[ι κ (I k).o,ι κ (I k).m,τ (I k).s]) rfl (by kernel_rfl) (by kernel_rfl) (by kernel_rfl) (λ_ _ _ h=>h) (Xc ⟨by rfl,λw jS=>by obtain⟨x0,x1,x2⟩:=jS;go_simp⟩) hX2.drew ?_;simp only [zS]
     refine wpAnyH_take (i:=4) (oi:=VQ) (v:=σ (ς ⟨g,0,ν⟩) L.length cap) rfl (by kernel_rfl) (by kernel_rfl) (by kernel_rfl) (λ_ _ _ h=>h) (Xc ⟨by rfl,λw jS=>by go_simp⟩) hX2.drew ?_;simp only [zS]
     refine wpAnyH_take (i:=5) (oi:=VP) (v:=ι κ (cap:Int)) rfl (by kernel_rfl) (by kernel_rfl) (by kernel_rfl) (λ_ _ _ h=>h) (Xc ⟨by rfl,λw jS=>by go_simp⟩) hX2.drew ?_;simp only [zS]
     refine wpAnyH_take (i:=6) (oi:=VO) (v:=σ (ς ⟨g,0,ν⟩) 0 0) rfl (by kernel_rfl) (by kernel_rfl) (by kernel_rfl) (λ_ _ _ h=>h) (Xc ⟨by rfl,λw jS=>by go_simp⟩) hX2.drew ?_;simp only [zS]
     have hN:NL w2.drew (ς ⟨g,0,ν⟩) 0 (λj=>L.getD (cap+j) (.num 0)):=λk hk=>by omega
     have HM:=λcc=>Ge (I k).o (I k).m (I k).s _ 0 cc _ _ hN (by omega) (by omega);obtain⟨nd,hnd⟩:∃ t:Tr,(Ef (I k).o (I k).m (I k).s (λj=>L.getD (cap+j) (.num 0)))=t:=⟨_,rfl⟩;rw [hnd] at HM;have HND:Hid ((Ef (I k).o (I k).m (I k).s (λj=>L.getD (cap+j) (.num 0)))=nd):=hnd;clear hnd hN;refine rd 7 VN (λK hK=>?_);go_simp;refine(HM _).mono ?_;rintro e w3 ⟨rfl,hb3⟩;refine hK.out _ _ (hX2.drew.later hb3) (λ_=>?_);clear hK K;clear HM;have hO3:=AH (Fr hO2.drew (r:=cap) (by omega)) hb3;have hs3:=hb3.size;have hsb:=hbw2.size;have hAL:∀ o:Obj,(w3.alloc o).heap.size=w3.heap.size+1:=λo=>by simp
     have hs3d:w2.drew.heap.size=w2.heap.size:=rfl;refine rd 8 VM (λK hK=>?_);go_simp;refine hK.out _ _ ((hX2.drew.later hb3).later (AE _ _)) (λ_=>?_);clear hK K;refine rd 9 VL (λK hK=>?_);rw [if_pos (by kernel_rfl)];refine wp_append_lies _ _ _ _ rfl w.heap.size 221 i0 .nilIface 1 16 Tryz.underlying254 HI.out hz0 hz1 hz2 rfl (by omega) (σ (ς ⟨g,0,ν⟩) cap cap) cap _ rfl (hO3.alloc _) ⟨w3.heap.size,0,ν⟩ 1 1 [.iface nd.ty nd.pay] rfl rfl (XP (η w3 _)) (Bu _ rfl) (by omega) (by have:=H100.out;unfold maxLen;omega) (by have:=H100.out;omega) (by simp;omega) _ rfl ?_;intro g4 cap4 w4 hO4 hgr4 hat4 hlt4;refine hK.out _ _ (((hX2.drew.later hb3).later (AE _ _)).grown hgr4 (by show ς _≠ς g;simp;omega)) (λ_=>?_);clear hK K;simp only [zS]
     refine rd 10 RT (λK hK=>?_);go_simp;refine hK.out _ _ (((hX2.drew.later hb3).later (AE _ _)).grown hgr4 (by show ς _≠ς g;simp;omega)) (λ_=>?_);clear hK K;refine XW (by kernel_rfl) ?_ _;have Q1:(L.take cap ++ [nd]).length=cap+1:=by simp;omega
     have Q2:w4.ownsRow w.heap.size 221 1 (σ (ς ⟨g4,0,ν⟩) (cap+1) cap4) (cap+1) ((L.take cap ++ [nd]).map Tr.val):=by
      rw [List.map_append,List.map_take];exact hO4
     have Q3:sh I (k+1)=ς ((L.take cap ++ [nd]).length:Int):=by rw [hst,Q1];congr 1;omega
     have Q4:(L.take cap ++ [nd]).all Tr.ok=lf I (k+1):=by
      have e1:=M4 (I k) (λj=>L.getD (cap+j) (.num 0)) q hq;rw [HND.out] at e1;rw [List.all_append,lf,←hok,Gi L cap q hr];simp only [List.all_cons,List.all_nil,Bool.and_true,e1]
      rcases DH (I k) <;> simp
     have Q5:∀ t∈L.take cap ++ [nd],t.fit:=by
      intro t ht;rcases List.mem_append.1 ht with ht | ht
      · exact hfit t (List.mem_of_mem_take ht)
      ·
       obtain rfl:=List.mem_singleton.1 ht;rw [←HND.out];refine KG (I k) _ q hq hs λj hj=>?_;have hjl:cap+j<L.length:=by omega
       have e2:L.getD (cap+j) (.num 0)=L[cap+j]:=by simp [hjl]
       show (L.getD (cap+j) (.num 0)).fit
       rw [e2];exact hfit _ (List.getElem_mem _)
     have Q6:υ w.heap.size w w4:=by
      have x1:υ w.heap.size w w3:=hbw2.trans ((Aa hb3).mono hbw2.size);exact(x1.alloc x1.size _).grown hgr4 (by rw [hAL];omega) (λj hj=>by have e:g=j:=XM hj;omega)
     clear hO4 hgr4 hat4 hO3 hO2 hX2 hb3 hst hok hfit hsh;go_wp2;go_roundw
     case rel=>exact⟨k+1,L.take cap ++ [nd],g4,cap4,by omega,by go_num,by rw [Q1],by rw [Q1];exact Q2,Q3,Q4,Q5,by rw [Q1];omega,IC HSTK.out hq hr HND.out,Q6⟩
     case measure=>simp [XX];omega
    ·
     have hcr':¬(r=cap):=λe=>hcr e.symm;refine XO (S:=Bx3 wr.heap.size (I k)) (by kernel_rfl) hX2.drew (λ_=>?_);refine wpAnyH_take (i:=0) (oi:=VU) (v:=σ (ς ⟨g,0,ν⟩) L.length cap) rfl (by kernel_rfl) (by kernel_rfl) (by kernel_rfl) (λ_ _ _ h=>h) (Xc ⟨by rfl,λw jS=>by go_simp⟩) hX2.drew ?_;simp only [zS]
     refine wpAnyH_take (i:=1) (oi:=VT) (v:=ι κ (r:Int)) rfl (by kernel_rfl) (by kernel_rfl) (by kernel_rfl) (λ_ _ _ h=>h) (Xc ⟨by rfl,λw jS=>by go_simp⟩) hX2.drew ?_;simp only [zS]
     refine wpAnyH_take (i:=2) (oi:=VS) (v:=σ (ς ⟨g,0,ν⟩) r cap) rfl (by kernel_rfl) (by kernel_rfl) (by kernel_rfl) (λ_ _ _ h=>h) (Xc ⟨by rfl,λw jS=>by go_simp⟩) hX2.drew ?_;simp only [zS]
     refine wpAnyH_take (i:=3) (oi:=VR) (v:=χ #[ι κ (I k).o,ι κ (I k).m,τ (I k).s]) rfl (by kernel_rfl) (by kernel_rfl) (by kernel_rfl) (λ_ _ _ h=>h) (Xc ⟨by rfl,λw jS=>by obtain⟨x0,x1,x2⟩:=jS;go_simp⟩) hX2.drew ?_;simp only [zS]
     refine wpAnyH_take (i:=4) (oi:=VQ) (v:=σ (ς ⟨g,0,ν⟩) L.length cap) rfl (by kernel_rfl) (by kernel_rfl) (by kernel_rfl) (λ_ _ _ h=>h) (Xc ⟨by rfl,λw jS=>by go_simp⟩) hX2.drew ?_;simp only [zS]
     refine wpAnyH_take (i:=5) (oi:=VP) (v:=ι κ (r:Int)) rfl (by kernel_rfl) (by kernel_rfl) (by kernel_rfl) (λ_ _ _ h=>h) (Xc ⟨by rfl,λw jS=>by go_simp⟩) hX2.drew ?_;simp only [zS]
     refine wpAnyH_take (i:=6) (oi:=VO) (v:=σ (ς ⟨g,r,ν⟩) (L.length - r) (cap - r)) rfl (by kernel_rfl) (by kernel_rfl) (by kernel_rfl) (λ_ _ _ h=>h) (Xc ⟨by rfl,λw jS=>by go_simp⟩) hX2.drew ?_;simp only [zS]
     have hN:=(S4 (a:=ς ⟨g,r,ν⟩) (r:=r) hO2 rfl (L.length - r) (by omega) (λ_=>rfl)).drew;have HM:=λcc=>Ge (I k).o (I k).m (I k).s _ (L.length - r) cc _ _ hN (by omega) (by omega);obtain⟨nd,hnd⟩:∃ t:Tr,(Ef (I k).o (I k).m (I k).s (λj=>L.getD (r+j) (.num 0)))=t:=⟨_,rfl⟩;rw [hnd] at HM;have HND:Hid ((Ef (I k).o (I k).m (I k).s (λj=>L.getD (r+j) (.num 0)))=nd):=hnd;clear hnd hN;refine rd 7 VN (λK hK=>?_);go_simp;refine(HM _).mono ?_;rintro e w3 ⟨rfl,hb3⟩;refine hK.out _ _ (hX2.drew.later hb3) (λ_=>?_);clear hK K;clear HM;have hO3:=AH (Fr hO2.drew (r:=r) (by omega)) hb3;have hs3:=hb3.size;have hsb:=hbw2.size;have hAL:∀ o:Obj,(w3.alloc o).heap.size=w3.heap.size+1:=λo=>by simp
     have hs3d:w2.drew.heap.size=w2.heap.size:=rfl;refine rd 8 VM (λK hK=>?_);go_simp;refine hK.out _ _ ((hX2.drew.later hb3).later (AE _ _)) (λ_=>?_);clear hK K;refine rd 9 VL (λK hK=>?_);rw [if_pos (by kernel_rfl)];refine wp_append_lies _ _ _ _ rfl w.heap.size 221 i0 .nilIface 1 16 Tryz.underlying254 HI.out hz0 hz1 hz2 rfl (by omega) (σ (ς ⟨g,0,ν⟩) r cap) r _ rfl (hO3.alloc _) ⟨w3.heap.size,0,ν⟩ 1 1 [.iface nd.ty nd.pay] rfl rfl (XP (η w3 _)) (Bu _ rfl) (by omega) (by have:=H100.out;unfold maxLen;omega) (by have:=H100.out;omega) (by simp;omega) _ rfl ?_;intro g4 cap4 w4 hO4 hgr4 hat4 hlt4;refine hK.out _ _ (((hX2.drew.later hb3).later (AE _ _)).grown hgr4 (by show ς _≠ς g;simp;omega)) (λ_=>?_);clear hK K;simp only [zS]
     refine rd 10 RT (λK hK=>?_);go_simp;refine hK.out _ _ (((hX2.drew.later hb3).later (AE _ _)).grown hgr4 (by show ς _≠ς g;simp;omega)) (λ_=>?_);clear hK K;refine XW (by kernel_rfl) ?_ _;have Q1:(L.take r ++ [nd]).length=r+1:=by simp;omega
     have Q2:w4.ownsRow w.heap.size 221 1 (σ (ς ⟨g4,0,ν⟩) (r+1) cap4) (r+1) ((L.take r ++ [nd]).map Tr.val):=by
      rw [List.map_append,List.map_take];exact hO4
     have Q3:sh I (k+1)=ς ((L.take r ++ [nd]).length:Int):=by rw [hst,Q1];congr 1;omega
     have Q4:(L.take r ++ [nd]).all Tr.ok=lf I (k+1):=by
      have e1:=M4 (I k) (λj=>L.getD (r+j) (.num 0)) q hq;rw [HND.out] at e1;rw [List.all_append,lf,←hok,Gi L r q hr];simp only [List.all_cons,List.all_nil,Bool.and_true,e1]
      rcases DH (I k) <;> simp
     have Q5:∀ t∈L.take r ++ [nd],t.fit:=by
      intro t ht;rcases List.mem_append.1 ht with ht | ht
      · exact hfit t (List.mem_of_mem_take ht)
      ·
       obtain rfl:=List.mem_singleton.1 ht;rw [←HND.out];refine KG (I k) _ q hq hs λj hj=>?_;have hjl:r+j<L.length:=by omega
       have e2:L.getD (r+j) (.num 0)=L[r+j]:=by simp [hjl]
       show (L.getD (r+j) (.num 0)).fit
       rw [e2];exact hfit _ (List.getElem_mem _)
     have Q6:υ w.heap.size w w4:=by
      have x1:υ w.heap.size w w3:=hbw2.trans ((Aa hb3).mono hbw2.size);exact(x1.alloc x1.size _).grown hgr4 (by rw [hAL];omega) (λj hj=>by have e:g=j:=XM hj;omega)
     clear hO4 hgr4 hat4 hO3 hO2 hX2 hb3 hst hok hfit hsh;go_wp2;go_roundw
     case rel=>exact⟨k+1,L.take r ++ [nd],g4,cap4,by omega,by go_num,by rw [Q1],by rw [Q1];exact Q2,Q3,Q4,Q5,by rw [Q1];omega,IC HSTK.out hq hr HND.out,Q6⟩
     case measure=>simp [XX];omega
   ·
    rw [if_neg hq0] at hst;have hno:Hid (Ag I n=false):=Nd (by rw [OU hst n (by omega)];simp);go_wp2_with (go_at_call 192;refine(Cy (I k).o (I k).m (I k).s _).mono ?_;rintro e w2 ⟨rfl,hb2⟩)
    all_goals first
     | exact XL (v:=θ #[.nilIface,β false]) (by simp [results,Tryz.results157,go_sem]) rfl ⟨bj hb hb2,Xc ⟨rfl,hno.out⟩⟩
     | (exfalso;omega)
  ·
   obtain rfl:k=n:=by omega
   by_cases h1:L.length=1
   · obtain⟨t,rfl⟩:=List.length_eq_one_iff.1 h1;have hc:=hO.cellAt 0 (by simp);have hc':wr.cell? ⟨g,0,ν⟩=ς (.iface t.ty t.pay):=hc;have hyes:Hid (Ag I k=t.ok):=(P8 hsh H100.out).trans (by rw [←hok];simp);have hft:=hfit t (by simp);have HS1:Hid (LJ I k=[t]):=HSTK.out.symm;clear hO hc hok hsh;go_wp2;exact XL (v:=θ #[t.val,β true]) (by simp [results,Tryz.results157,go_sem,Tr.val]) rfl ⟨hb,Xi ⟨t,rfl,hft,hyes.out,HS1.out⟩⟩
   ·
    have hno:Hid (Ag I k=false):=Nd (by rw [hsh];simp;omega);have d1:((L.length:Int) != 1)=true:=by simp;omega
    go_wp2;exact XL (v:=θ #[.nilIface,β false]) (by simp [results,Tryz.results157,go_sem]) rfl ⟨hb,Xc ⟨rfl,hno.out⟩⟩
set_option maxHeartbeats 2000000
theorem NN(b:Nat)(a:Option Addr)(n c:Nat)(I:Nat->Itm)(w:ο)(hK:KwAt w b)(h:IL w a n I)(hn:n<=1048576):XR μ 113 #[.map (ς b),σ a n c] w λe w'=>e=ρ (β (Ag I n))/\υ w.heap.size w w':=by
 go_enter Tryz.func113,Tryz.ntmps113
 go_upto_region 2 with (go_at_call 157;refine(Vo a n c I _ h hn).mono ?_;rintro e w1 ⟨hb1,⟨rfl,hno⟩ | ⟨t,rfl,hft,hyes,-⟩⟩)
 ·
  go_wp2;go_ret
  exact⟨AM (by simp [hno]),hb1⟩
 ·
  have hm:=hft.1;have he:=hft.2.1;unfold Tr.val;go_wp2_with (refine(NZ b t _ hft (hK.later hb1)).mono ?_;rintro e w2 ⟨rfl,hb2⟩)
  go_ret
  exact⟨AM (by simp [hyes]),AA hb1 hb2⟩
theorem NO(b:Nat)(a:Option Addr)(n c:Nat)(I:Nat->Itm)(w:ο)(hK:KwAt w b)(h:IL w a n I)(hn:n<=1048576):XR μ 114 #[.map (ς b),σ a n c] w λe w'=>e=ρ (β (AR I n))/\υ w.heap.size w w':=by
 have hb0:=Xa w.heap.size w;go_enter Tryz.func114,Tryz.ntmps114
 by_cases h0:n=0
 ·
  subst h0;go_wp2;go_ret
  exact⟨AM (by simp [AR]),hb0⟩
 ·
  have h0':((n:Int) == 0)=false:=by simp;omega
  go_wp2_with (go_at_call 113;refine(NN b a n c I _ hK h hn).mono ?_;rintro e w1 ⟨rfl,hb1⟩)
  go_ret
  exact⟨AM (by simp [AR,h0]),hb1⟩
structure Clm where
 s:ByteArray
 t:Int
def CL(w:ο)(a:Option Addr)(n:Nat)(C:Nat->Clm):Prop:=
 ∀ k,k<n->∃ b off,a=ς ⟨b,off,ν⟩/\w.cell? ⟨b,off+k * 2,ν⟩=ς (τ (C k).s)/\w.cell? ⟨b,off+k * 2+1,ν⟩=ς (ι κ (C k).t)/\(C k).s.size<=1048576
theorem CL.later{w w':ο}{a:Option Addr}{n:Nat}{C:Nat->Clm}(h:CL w a n C)(hb:υ w.heap.size w w'):CL w' a n C:=λk hk=>by
 obtain⟨b,off,e,h0,h1,hs⟩:=h k hk;exact⟨b,off,e,AB hb h0,AB hb h1,hs⟩
def OL(w:ο)(a:Option Addr)(n:Nat)(m:Nat->Nat)(O:Nat->Nat->Itm):Prop:=
 ∀ k,k<n->∃ b off i c,a=ς ⟨b,off,ν⟩/\w.cell? ⟨b,off+k,ν⟩=ς (σ i (m k) c)/\IL w i (m k) (O k)/\m k<=1048576
theorem OL.later{w w':ο}{a:Option Addr}{n:Nat}{m:Nat->Nat}{O:Nat->Nat->Itm}(h:OL w a n m O)(hb:υ w.heap.size w w'):OL w' a n m O:=λk hk=>by
 obtain⟨b,off,i,c,e,h0,hi,hm⟩:=h k hk;exact⟨b,off,i,c,e,AB hb h0,hi.later hb,hm⟩
structure St where
 k:Int
 tb:ByteArray
 n2:Nat
 C:Nat->Clm
 n3:Nat
 V:Nat->Itm
 col:ByteArray
 n5:Nat
 E:Nat->Itm
 n6:Nat
 W:Nat->Itm
 n7:Nat
 m7:Nat->Nat
 O:Nat->Nat->Itm
structure Sa where
 a2:Option Addr
 c2:Nat
 a3:Option Addr
 c3:Nat
 a5:Option Addr
 c5:Nat
 a6:Option Addr
 c6:Nat
 a7:Option Addr
 c7:Nat
abbrev Hv(d:St)(p:Sa):Array XU:=#[ι κ d.k,τ d.tb,σ p.a2 d.n2 p.c2,σ p.a3 d.n3 p.c3,τ d.col,σ p.a5 d.n5 p.c5,σ p.a6 d.n6 p.c6,σ p.a7 d.n7 p.c7]
structure SM(w:ο)(d:St)(p:Sa):Prop where
 tb:d.tb.size<=1048576
 col:d.col.size<=1048576
 co:CL w p.a2 d.n2 d.C
 va:IL w p.a3 d.n3 d.V
 ex:IL w p.a5 d.n5 d.E
 wh:IL w p.a6 d.n6 d.W
 ou:OL w p.a7 d.n7 d.m7 d.O
 l2:d.n2<=1048576
 l3:d.n3<=1048576
 l5:d.n5<=1048576
 l6:d.n6<=1048576
 l7:d.n7<=1048576
theorem SM.later{w w':ο}{d:St}{p:Sa}(h:SM w d p)(hb:υ w.heap.size w w'):SM w' d p:=
 ⟨h.tb,h.col,h.co.later hb,h.va.later hb,h.ex.later hb,h.wh.later hb,h.ou.later hb,h.l2,h.l3,h.l5,h.l6,h.l7⟩
structure B8(w:ο)(g:Nat)(d:St)(p:Sa):Prop where
 c0:w.cell? ⟨g,0,ν⟩=ς (ι κ d.k)
 c1:w.cell? ⟨g,1,ν⟩=ς (τ d.tb)
 c2:w.cell? ⟨g,2,ν⟩=ς (σ p.a2 d.n2 p.c2)
 c3:w.cell? ⟨g,3,ν⟩=ς (σ p.a3 d.n3 p.c3)
 c4:w.cell? ⟨g,4,ν⟩=ς (τ d.col)
 c5:w.cell? ⟨g,5,ν⟩=ς (σ p.a5 d.n5 p.c5)
 c6:w.cell? ⟨g,6,ν⟩=ς (σ p.a6 d.n6 p.c6)
 c7:w.cell? ⟨g,7,ν⟩=ς (σ p.a7 d.n7 p.c7)
theorem B8.new(w:ο)(d:St)(p:Sa)(t:TypeId):B8 (w.alloc (γ (Hv d p) t)) w.heap.size d p:=
 ⟨(ε _ _ 0 _ _ _ (η w _)).trans rfl,(ε _ _ 1 _ _ _ (η w _)).trans rfl,(ε _ _ 2 _ _ _ (η w _)).trans rfl,(ε _ _ 3 _ _ _ (η w _)).trans rfl,(ε _ _ 4 _ _ _ (η w _)).trans rfl,(ε _ _ 5 _ _ _ (η w _)).trans rfl,(ε _ _ 6 _ _ _ (η w _)).trans rfl,(ε _ _ 7 _ _ _ (η w _)).trans rfl⟩
theorem B8.later{w w':ο}{g:Nat}{d:St}{p:Sa}(h:B8 w g d p)(hb:υ w.heap.size w w'):B8 w' g d p:=
 ⟨AB hb h.c0,AB hb h.c1,AB hb h.c2,AB hb h.c3,AB hb h.c4,AB hb h.c5,AB hb h.c6,AB hb h.c7⟩
def Aw(n:Nat)(p:Nat->Bool):Bool:=(List.range n).all p
theorem Az{n:Nat}{p:Nat->Bool}(h:∀ j,j<n->p j=true):Aw n p=true:=by
 unfold Aw;rw [List.all_eq_true];exact λj hj=>h j (List.mem_range.1 hj)
theorem Ae{n j:Nat}{p:Nat->Bool}(hj:j<n)(h:p j=false):Aw n p=false:=by
 unfold Aw;rw [List.all_eq_false];exact⟨j,List.mem_range.2 hj,by simp [h]⟩
theorem Da{n j:Nat}{p:Nat->Bool}(hj:j<n)(h:p j=false∨20<n):(Bb n 1 20 && Aw n p)=false:=by
 rcases h with h | h
 · rw [Ae hj h];simp
 ·
  simp [Bb]
  intros
  omega
theorem Fg{n:Nat}{p:Nat->Bool}(h:∀ j,j<n->p j=true)(hm:0<n->n<=20):(Bb n 1 20 && Aw n p)=decide (0<n):=by
 rw [Az h,Bool.eq_iff_iff];simp [Bb]
 omega
theorem Ke{a b:Bool}(h:a=false):(a && b)=false:=by rw [h];rfl
def F9(d:St):Bool:=(d.k != 1 && (d.n2:Int) != 0) || (d.k != 2 && (d.n3:Int) != 0) || (d.k != 3 && (!decide (d.col.size=0) || (d.n5:Int) != 0)) || (d.k != 5 && (d.n7:Int) != 0)
def A6(d:St):Bool:=
 if d.k=1 then Bb d.n2 1 20 && Aw d.n2 (λj=>Bx (d.C j).s (d.C j).t)
 else if d.k=2 then Bb d.n3 1 20 && Aw d.n3 (λj=>Ap (d.V j).o (d.V j).m (d.V j).s)
 else if d.k=3 then AV d.col && Ag d.E d.n5 && AR d.W d.n6
 else if d.k=4 then AR d.W d.n6
 else if d.k=5 then Bb d.n7 1 20 && Aw d.n7 (λj=>Ag (d.O j) (d.m7 j)) && AR d.W d.n6
 else false
def AL(d:St):Bool:=AV d.tb && !F9 d && !(decide (d.k<3) && (d.n6:Int) != 0) && A6 d
