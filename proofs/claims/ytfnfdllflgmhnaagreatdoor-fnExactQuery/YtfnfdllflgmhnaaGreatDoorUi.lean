import Derived.Test.YtfnfdllflgmhnaaGreatDoorUf
open Array renaming getElem?_eq_some_iff → XS
open Bool renaming and_eq_true → XV
open ByteArray renaming empty → XN
open Go renaming Calls → XR, World → ο, Value → XU, bodyPost_ret → XL, cell_of_row → ε, frozen_of_row → ζ, heap_alloc_new → η, heap_setCell_same → π, results_cell_row → Xd, wpList_append_lies → XY
open Go.Ending renaming returned → ρ
open Go.IntKind renaming i64 → κ
open Go.Obj renaming cells → γ
open Go.Proofs.Tryz renaming prog → μ
open Go.RowKit renaming Below → υ, intOf → XX
open Go.RowKit.Below renaming refl → Xa
open Go.Value renaming agg → χ, bool → β, int → ι, slice → σ, string → τ
open Go.World renaming news_of_block → XP, ownsRow_made → Xb, size_alloc → ω, size_setCell → Xl
open List renaming length_append → XQ, nil_append → Xk
open Nat renaming add_zero → Xm, zero_add → XT, le_refl → XK, le_trans → Xe
open Option renaming none → ν, some → ς
open Option.some renaming inj → XM
open Or renaming inl → Xc, inr → Xi
namespace Go.Proofs.YtfnfdllflgmhnaaGreatDoor
open Go.RowKit Go.Maps Go.WideMaps
set_option maxRecDepth 20000
set_option maxHeartbeats 8000000
def EO(C:Nat->Clm)(n:Nat)(I:Nat->Itm)(m:Nat):Int:=if m=0 then 0 else if (De C n I m).2=0/\¬(De C n I m).1=1 then 4 else (De C n I m).2
def C5(C:Nat->Clm)(n:Nat)(R:Nat->Itm)(I:Nat->Itm)(m:Nat):Bool:=decide (m=0) || !decide ((Cn C n R I m).m=0)
theorem CK{I:Nat->Itm}{m:Nat}(h:Ag I m=true):m<=100/\0<m/\ex I m=ς 1:=by
 simp only [Ag,Bb,XV,decide_eq_true_eq] at h
 exact⟨by omega,by omega,h.2⟩
theorem DA{I:Nat->Itm}{m:Nat}(h:AR I m=true)(h0:¬m=0):m<=100/\0<m/\ex I m=ς 1:=by
 simp only [AR,Bool.or_eq_true,decide_eq_true_eq] at h
 exact CK (h.resolve_left h0)
theorem Hl{C:Nat->Clm}{n:Nat}{I:Nat->Itm}{m:Nat}(h:(De C n I m).2=0):(ck C n I m).2=0:=by
 unfold De at h;split at h
 · exact h
 ·
  rename_i e
  simpa using e
theorem Nn{C:Nat->Clm}{n:Nat}{I:Nat->Itm}{m:Nat}(h:EO C n I m=0)(h0:¬m=0):(ck C n I m).2=0:=by
 unfold EO at h;rw [if_neg h0] at h;split at h
 · omega
 · exact Hl h
theorem Gt(ac:Option Addr)(n cc:Nat)(C:Nat->Clm)(a:Option Addr)(m c:Nat)(I:Nat->Itm)(w:ο)(hC:CL w ac n C)(hI:IL w a m I)(hn:n<=1048576)(hok:AR I m=true) :
 XR μ 79 #[σ ac n cc,σ a m c] w λe w'=>e=ρ (ι κ (EO C n I m))/\υ w.heap.size w w':=by
 by_cases h0:m=0
 ·
  subst h0;go_enter Tryz.func79,Tryz.ntmps79
  go_wp2;go_ret
  exact⟨by simp [EO],Xa _ _⟩
 ·
  obtain⟨h1,h2,h3⟩:=DA hok h0;have H3:Hid (ex I m=ς 1):=h3;clear h3 hok;have n0:((m:Int) == 0)=false:=by simp;omega
  obtain⟨k,cd,hk⟩:∃ k cd,De C n I m=(k,cd):=⟨_,_,rfl⟩;have HK:Hid (De C n I m=(k,cd)):=hk;have HC:=I5 ac n cc C a m c I w hC hI hn h1 H3.out;rw [hk] at HC;clear hk h0;by_cases e0:cd=0
  ·
   subst e0;by_cases e1:k=1
   ·
    subst e1;go_enter Tryz.func79,Tryz.ntmps79
    go_wp2_with (go_at_call 78;refine HC.mono ?_;rintro e w1 ⟨rfl,hb1⟩)
    go_ret
    exact⟨by unfold EO;rw [HK.out,if_neg (by omega),if_neg (by simp)];rfl,hb1⟩
   ·
    have n1:(k == 1)=false:=by simpa using e1
    have n2:(k != 1)=true:=by simpa using e1
    have HE:Hid (¬k=1):=e1;clear e1;go_enter Tryz.func79,Tryz.ntmps79
    go_wp2_with (go_at_call 78;refine HC.mono ?_;rintro e w1 ⟨rfl,hb1⟩)
    go_ret
    exact⟨by unfold EO;rw [HK.out,if_neg (by omega),if_pos ⟨rfl,HE.out⟩];rfl,hb1⟩
  ·
   have n1:(cd == 0)=false:=by simpa using e0
   have HE:Hid (¬cd=0):=e0;clear e0;go_enter Tryz.func79,Tryz.ntmps79
   go_wp2_with (go_at_call 78;refine HC.mono ?_;rintro e w1 ⟨rfl,hb1⟩)
   go_ret
   exact⟨by unfold EO;rw [HK.out,if_neg (by omega),if_neg (λh=>HE.out h.1)];rfl,hb1⟩
theorem Tryz.fieldVal(o m:Int)(s:ByteArray)(v:ο):(Instr.field 94 (χ #[ι κ o,ι κ m,τ s]) 1).run μ v=.ok (ι κ m) v:=by kernel_rfl
theorem Lh(ac:Option Addr)(n cc:Nat)(C:Nat->Clm)(ar:Option Addr)(cr:Nat)(R:Nat->Itm)(a:Option Addr)(m c:Nat)(I:Nat->Itm)(w:ο)(hC:CL w ac n C)(hR:IL w ar n R)(hI:IL w a m I)(hn:n<=1048576)(hok:AR I m=true)(hk0:EO C n I m=0)(hz:∀ j,j<n->(R j).s.size<=200) :
 XR μ 46 #[σ ac n cc,σ ar n cr,σ a m c] w λe w'=>e=ρ (β (C5 C n R I m))/\υ w.heap.size w w':=by
 by_cases h0:m=0
 ·
  subst h0;go_enter Tryz.func46,Tryz.ntmps46
  go_wp2;go_ret
  exact⟨by simp [C5],Xa _ _⟩
 ·
  obtain⟨h1,h2,h3⟩:=DA hok h0;have n0:((m:Int) == 0)=false:=by simp;omega
  have HV:=Lf ac n cc C ar cr R a m c I w hC hR hI hn h1 h3 (Nn hk0 h0) hz;obtain⟨x,hx⟩:∃ x,Cn C n R I m=x:=⟨_,rfl⟩;have HB:Hid (C5 C n R I m=!decide (x.m=0)):=by show _=_;unfold C5;rw [hx];simp [h0]
  rw [hx] at HV;clear hx h0 h3 hok hk0 hz;obtain⟨xo,xm,xs⟩:=x;by_cases e:xm=0
  ·
   subst e;have hfd:∀ v:ο,(Instr.field 94 (χ #[ι κ xo,ι κ 0,τ xs]) 1).run μ v=.ok (ι κ 0) v:=λv=>Tryz.fieldVal _ _ _ v;go_enter Tryz.func46,Tryz.ntmps46
   go_wp2_with (go_at_call 47;refine HV.mono ?_;rintro e w1 ⟨rfl,hb1⟩)
   go_ret
   exact⟨by rw [HB.out];rfl,hb1⟩
  ·
   have n1:(xm != 0)=true:=by simpa using e
   have HE:Hid (C5 C n R I m=true):=by show _=_;rw [HB.out];simpa using e
   clear e;have hfd:∀ v:ο,(Instr.field 94 (χ #[ι κ xo,ι κ xm,τ xs]) 1).run μ v=.ok (ι κ xm) v:=λv=>Tryz.fieldVal _ _ _ v;go_enter Tryz.func46,Tryz.ntmps46
   go_wp2_with (go_at_call 47;refine HV.mono ?_;rintro e w1 ⟨rfl,hb1⟩)
   go_ret
   exact⟨by rw [HE.out];rfl,hb1⟩
def Bn(T:Nat->Td)(s:ByteArray):Nat->Option Nat
 | 0=>ν
 | k+1=>match Bn T s k with
  | some j=>ς j
  | none=>if ((T k).s.toList == s.toList)=true then ς k else ν
theorem Kj{T:Nat->Td}{s:ByteArray}{k j:Nat}(h:Bn T s k=ς j):∀ n,k<=n->Bn T s n=ς j:=by
 intro n hn;induction n with
 | zero=>
  obtain rfl:k=0:=by omega
  exact h
 | succ n ih=>
  by_cases e:k=n+1
  · subst e;exact h
  · rw [Bn,ih (by omega)]
theorem C9{T:Nat->Td}{s:ByteArray}:∀ {n j:Nat},Bn T s n=ς j->j<n/\(T j).s=s
 | 0,j,h=>by cases h
 | n+1,j,h=>by
  rw [Bn] at h;split at h
  ·
   rename_i i hi
   cases h
   have:=C9 hi;exact⟨by omega,this.2⟩
  ·
   split at h
   ·
    rename_i he
    cases h
    exact⟨by omega,Bt (eq_of_beq he)⟩
   · cases h
theorem GV{T:Nat->Td}{s:ByteArray}:∀ {n:Nat},Bn T s n=ν->∀ j,j<n->(T j).s≠s
 | 0,_,j,hj=>by omega
 | n+1,h,j,hj=>by
  rw [Bn] at h;split at h
  · cases h
  ·
   rename_i hn
   split at h
   · cases h
   ·
    rename_i he
    by_cases e:j=n
    · subst e;intro hs;rw [hs] at he;simp at he
    · exact GV hn j (by omega)
theorem Fq(a:Option Addr)(n c:Nat)(T:Nat->Td)(s:ByteArray)(w:ο)(h:TL w a n T)(hn:n<=1048576):XR μ 45 #[χ #[σ a n c],τ s] w λe w'=>e=ρ (ι κ (Hj (Bn T s n)))/\υ w.heap.size w w':=by
 have hb0:=AE w (γ #[σ a n c] 45);go_enter Tryz.func45,Tryz.ntmps45
 go_wp2;go_loopw [5,6,10] (λ_ _ i wr=>∃ k:Nat,k<=n/\i=ι κ k/\Bn T s k=ν/\υ w.heap.size w wr) (λ_ _ i _=>n - (XX i).toNat)
 case atStart=>exact⟨0,by omega,rfl,rfl,hb0⟩
 case round=>
  obtain⟨k,hk,rfl,hno,hb⟩:=hrel;have HNO:Hid (Bn T s k=ν):=hno;clear hno;by_cases hlt:k<n
  ·
   obtain⟨b,off,ac,cc,ar,cr,rfl,d0,d1,d2,-⟩:=h.later hb k hlt;have HN:Hid (Bn T s (k+1)=if ((T k).s.toList == s.toList)=true then ς k else ν):=by show _=_;rw [Bn,HNO.out]
   rcases he:((T k).s.toList == s.toList)
   ·
    go_wp2;go_roundw
    case rel=>exact⟨k+1,by omega,by go_num,by rw [HN.out,he];rfl,bj hb (Xa _ _)⟩
    case measure=>simp [XX];omega
   ·
    go_wp2;go_ret
    refine⟨?_,bj hb (Xa _ _)⟩;rw [Kj (k:=k+1) (j:=k) (by rw [HN.out,he];rfl) n (by omega)];rfl
  ·
   obtain rfl:k=n:=by omega
   go_wp2;go_ret
   exact⟨by rw [HNO.out];rfl,hb⟩
def CH(f:Nat->List XU)(n:Nat):List XU:=(List.range n).flatMap f
theorem NY(f:Nat->List XU):CH f 0=[]:=rfl
theorem Cl(f:Nat->List XU)(n:Nat):CH f (n+1)=CH f n ++ f n:=by
 unfold CH;rw [List.range_succ,List.flatMap_append];simp
theorem CW{f:Nat->List XU}{sz:Nat}:∀ {n:Nat},(∀ k,k<n->(f k).length=sz)->(CH f n).length=n * sz
 | 0,_=>by simp [CH]
 | n+1,h=>by
  rw [Cl,XQ,CW (n:=n) (λk hk=>h k (by omega)),h n (by omega),Nat.add_mul,Nat.one_mul]
theorem FC{f f':Nat->List XU}:∀ {n:Nat},(∀ k,k<n->f k=f' k)->CH f n=CH f' n
 | 0,_=>rfl
 | n+1,h=>by rw [Cl,Cl,FC (n:=n) (λk hk=>h k (by omega)),h n (by omega)]
theorem Es{f:Nat->List XU}{sz:Nat}:∀ {n:Nat},(∀ k,k<n->(f k).length=sz)->∀ {i j:Nat},i<n->j<sz->(CH f n)[i * sz+j]?=(f i)[j]?
 | 0,_,i,j,hi,_=>by omega
 | n+1,h,i,j,hi,hj=>by
  have hl:=CW (n:=n) (λk hk=>h k (by omega));rw [Cl];by_cases e:i<n
  ·
   have hb:i * sz+j<n * sz:=by
    have:(i+1) * sz<=n * sz:=Nat.mul_le_mul_right sz e;rw [Nat.add_mul,Nat.one_mul] at this;omega
   rw [List.getElem?_append_left (by omega)];exact Es (n:=n) (λk hk=>h k (by omega)) e hj
  ·
   obtain rfl:i=n:=by omega
   rw [List.getElem?_append_right (by omega),hl];congr 1
   omega
theorem Hg{f:Nat->List XU}{sz:Nat}(hsz:0<sz):∀ {n:Nat},(∀ k,k<n->(f k).length=sz)->∀ {P:Nat->XU->Prop},(∀ i,i<n->∀ j u,(f i)[j]?=ς u->P (i * sz+j) u)->∀ q u,(CH f n)[q]?=ς u->P q u:=by
 intro n h P hP q u hu;obtain⟨hq,-⟩:=List.getElem?_eq_some_iff.1 hu;rw [CW h] at hq;have hi:q / sz<n:=Nat.div_lt_of_lt_mul (by rw [Nat.mul_comm];exact hq);have hj:q % sz<sz:=Nat.mod_lt _ hsz;have e:q / sz * sz+q % sz=q:=by rw [Nat.mul_comm];exact Nat.div_add_mod q sz
 rw [←e] at hu ⊢;rw [Es h hi hj] at hu;exact hP _ hi _ _ hu
theorem DE{f:Nat->List XU}{n:Nat}(h:∀ k,k<n->∀ u∈f k,u.oneCell'=true):∀ u∈CH f n,u.oneCell'=true:=by
 intro u hu;simp only [CH,List.mem_flatMap,List.mem_range] at hu
 obtain⟨k,hk,hu⟩:=hu;exact h k hk u hu
def Liv(X:Nat->Prop)(w:ο)(P:ο->Prop):Prop:=∀ w',(∀ a v,X a.block->w.cell? a=ς v->w'.cell? a=ς v)->P w'
theorem Liv.now{X:Nat->Prop}{w:ο}{P:ο->Prop}(h:Liv X w P):P w:=h w λ_ _ _ h=>h
theorem Liv.step{X:Nat->Prop}{w w':ο}{P:ο->Prop}(h:Liv X w P)(k:∀ a v,X a.block->w.cell? a=ς v->w'.cell? a=ς v):Liv X w' P:=λw2 h2=>h w2 λa v hx hc=>h2 a v hx (k a v hx hc)
theorem Liv.wide{X Y:Nat->Prop}{w:ο}{P:ο->Prop}(h:Liv X w P)(k:∀ b,X b->b<w.heap.size->Y b):Liv Y w P:=λw2 h2=>h w2 λa v hx hc=>h2 a v (k _ hx (World.block_lt_of_cell? w _ hc)) hc
theorem Liv.later{X:Nat->Prop}{w w':ο}{P:ο->Prop}(h:Liv X w P)(hb:υ w.heap.size w w'):Liv X w' P:=h.step λ_ _ _ hc=>AB hb hc
theorem Liv.imp{X:Nat->Prop}{w:ο}{P Q:ο->Prop}(h:Liv X w P)(k:∀ w,P w->Q w):Liv X w Q:=λw2 h2=>k _ (h w2 h2)
theorem Liv.and{X:Nat->Prop}{w:ο}{P Q:ο->Prop}(h:Liv X w P)(k:Liv X w Q):Liv X w (λw=>P w/\Q w):=λw2 h2=>⟨h w2 h2,k w2 h2⟩
theorem Liv.grown{X:Nat->Prop}{w w':ο}{P:ο->Prop}{r:Option Nat}(h:Liv X w P)(hg:w.grownBy w' r)(hX:∀ b,X b->ς b≠r):Liv X w' P:=h.step λ_ _ hx hc=>
 (World.cell?_of_block (hg.block _ (World.block_lt_of_cell? w _ hc) (hX _ hx))).trans hc
theorem Liv.set{X:Nat->Prop}{w:ο}{P:ο->Prop}{B i:Nat}{v:XU}(h:Liv X w P)(hX:¬X B):Liv X (w.setCell ⟨B,i,ν⟩ v) P:=h.step λa u hx hc=>by
 rw [World.cell?_setCell_far _ _ _ _ (show B≠a.block from λe=>hX (by rw [e];exact hx))]
 exact hc
theorem IL.liv{w:ο}{a:Option Addr}{n:Nat}{I:Nat->Itm}(h:IL w a n I){X:Nat->Prop}(hX:∀ b off,a=ς ⟨b,off,ν⟩->X b):Liv X w (λw=>IL w a n I):=λw' k j hj=>by
 obtain⟨b,off,e,c0,c1,c2,hs⟩:=h j hj;exact⟨b,off,e,k _ _ (hX b off e) c0,k _ _ (hX b off e) c1,k _ _ (hX b off e) c2,hs⟩
theorem CL.liv{w:ο}{a:Option Addr}{n:Nat}{C:Nat->Clm}(h:CL w a n C){X:Nat->Prop}(hX:∀ b off,a=ς ⟨b,off,ν⟩->X b):Liv X w (λw=>CL w a n C):=λw' k j hj=>by
 obtain⟨b,off,e,c0,c1,hs⟩:=h j hj;exact⟨b,off,e,k _ _ (hX b off e) c0,k _ _ (hX b off e) c1,hs⟩
theorem IL.lb{w:ο}{a:Option Addr}{n:Nat}{I:Nat->Itm}(h:IL w a n I):Liv (λb=>b<w.heap.size) w (λw=>IL w a n I):=λw' k j hj=>by
 obtain⟨b,off,e,c0,c1,c2,hs⟩:=h j hj;have hl:=World.block_lt_of_cell? w _ c0;exact⟨b,off,e,k _ _ hl c0,k _ _ hl c1,k _ _ hl c2,hs⟩
theorem CL.lb{w:ο}{a:Option Addr}{n:Nat}{C:Nat->Clm}(h:CL w a n C):Liv (λb=>b<w.heap.size) w (λw=>CL w a n C):=λw' k j hj=>by
 obtain⟨b,off,e,c0,c1,hs⟩:=h j hj;have hl:=World.block_lt_of_cell? w _ c0;exact⟨b,off,e,k _ _ hl c0,k _ _ hl c1,hs⟩
theorem OL.lb{w:ο}{a:Option Addr}{n:Nat}{m:Nat->Nat}{O:Nat->Nat->Itm}(h:OL w a n m O):Liv (λb=>b<w.heap.size) w (λw=>OL w a n m O):=λw' k j hj=>by
 obtain⟨b,off,i,c,e,c0,hI,hs⟩:=h j hj;exact⟨b,off,i,c,e,k _ _ (World.block_lt_of_cell? w _ c0) c0,hI.lb w' k,hs⟩
structure GO{α:Type}(T sz G:Nat)(D:Nat->Prop)(E:List XU->α->ο->Prop)(w:ο)(v:XU)(n:Nat)(x:Nat->α)(f:Nat->List XU):Prop where
 own:w.ownsRow G T sz v n (CH f n)
 len:∀ i,i<n->(f i).length=sz
 liv:∀ i,i<n->Liv (λb=>D b/\ς b≠v.ownBlock) w (E (f i) (x i))
theorem GO.later{α:Type}{T sz G:Nat}{D:Nat->Prop}{E:List XU->α->ο->Prop}{w w':ο}{v:XU}{n:Nat}{x:Nat->α}{f:Nat->List XU}(h:GO T sz G D E w v n x f)(hb:υ w.heap.size w w'):GO T sz G D E w' v n x f:=
 ⟨AH h.own hb,h.len,λi hi=>(h.liv i hi).later hb⟩
theorem GO.nil{α:Type}{T sz G:Nat}{D:Nat->Prop}{E:List XU->α->ο->Prop}{w:ο}{v:XU}{x:Nat->α}(h:w.ownsRow G T sz v 0 []):GO T sz G D E w v 0 x (λ_=>[]):=
 ⟨h,λi hi=>by omega,λi hi=>by omega⟩
theorem GO.congr{α:Type}{T sz G:Nat}{D:Nat->Prop}{E:List XU->α->ο->Prop}{w:ο}{v:XU}{n:Nat}{x x':Nat->α}{f:Nat->List XU}(h:GO T sz G D E w v n x f)(hx:∀ i,i<n->x' i=x i):GO T sz G D E w v n x' f:=
 ⟨h.own,h.len,λi hi=>by rw [hx i hi];exact h.liv i hi⟩
theorem GO.push{α:Type}{T sz G:Nat}{D:Nat->Prop}{E:List XU->α->ο->Prop}{w w':ο}{v:XU}{n g' cap':Nat}{x:Nat->α}{f:Nat->List XU}{c:List XU}(h:GO T sz G D E w v n x f)(hc:c.length=sz)(hl:Liv (λb=>D b/\ς b≠v.ownBlock) w (E c (x n)))
 (hO:w'.ownsRow G T sz (σ (ς ⟨g',0,ν⟩) (n+1) cap') (n+1) (CH f n ++ c)) (hgr:w.grownBy w' v.ownBlock) (hat:v.ownBlock=ς g'∨g'=w.heap.size) :
 GO T sz G D E w' (σ (ς ⟨g',0,ν⟩) (n+1) cap') (n+1) x (λi=>if i<n then f i else c):=by
 have key:∀ {P:ο->Prop},Liv (λb=>D b/\ς b≠v.ownBlock) w P->Liv (λb=>D b/\ς b≠(σ (ς ⟨g',0,ν⟩) (n+1) cap').ownBlock) w' P:=λhp=>by
  have h1:=hp.wide (Y:=λb=>D b/\ς b≠v.ownBlock/\b<w.heap.size) (λb hb hs=>⟨hb.1,hb.2,hs⟩);have h2:=h1.grown hgr (λb hb=>hb.2.1);refine h2.wide (λb hb _=>⟨hb.1,?_⟩);show ς b≠ς g'
  rcases hat with e | e
  · rw [←e];exact hb.2.1
  · intro e2;have e3:b=g':=XM e2;have:=hb.2.2;omega
 refine⟨?_,λi hi=>?_,λi hi=>?_⟩
 ·
  rw [Cl,FC (f:=λi=>if i<n then f i else c) (f':=f) (λk hk=>by simp [hk])]
  rw [if_neg (by omega)];exact hO
 ·
  show (if i<n then f i else c).length=sz
  split
  · rename_i h1;exact h.len i h1
  · exact hc
 ·
  show Liv _ _ (E (if i<n then f i else c) (x i))
  split
  · rename_i h1;exact key (h.liv i h1)
  ·
   obtain rfl:i=n:=by omega
   exact key hl
theorem GO.cell{α:Type}{T sz G:Nat}{D:Nat->Prop}{E:List XU->α->ο->Prop}{w:ο}{g cap n:Nat}{x:Nat->α}{f:Nat->List XU}(h:GO T sz G D E w (σ (ς ⟨g,0,ν⟩) n cap) n x f){i j:Nat}(hi:i<n)(hj:j<sz):w.cell? ⟨g,i * sz+j,ν⟩=(f i)[j]?:=by
 have hb:i * sz+j<n * sz:=by
  have:(i+1) * sz<=n * sz:=Nat.mul_le_mul_right sz hi;rw [Nat.add_mul,Nat.one_mul] at this;omega
 exact(h.own.cellAt _ hb).trans (Es h.len hi hj)
abbrev Rw:=Nat×(Nat->Itm)
def ER(c:List XU)(x:Rw)(w:ο):Prop:=∃ a k,c=[σ a x.1 k]/\IL w a x.1 x.2/\x.1<=1048576
def ET(c:List XU)(d:Td)(w:ο):Prop:=∃ ac cc ar cr,c=[τ d.s,σ ac d.n cc,σ ar d.r cr]/\CL w ac d.n d.C/\OL w ar d.r d.m d.R/\Sm3 d
abbrev RO(G:Nat)(D:Nat->Prop)(w:ο)(v:XU)(n:Nat)(x:Nat->Rw)(f:Nat->List XU):Prop:=GO 60 1 G D ER w v n x f
abbrev TO(G:Nat)(D:Nat->Prop)(w:ο)(v:XU)(n:Nat)(x:Nat->Td)(f:Nat->List XU):Prop:=GO 100 3 G D ET w v n x f
theorem Cx{w:ο}{base e size n:Nat}{v:XU}{xs:List XU}(h:w.ownsRow base e size v n xs):(v=σ ν 0 0/\n=0)∨∃ g cap,v=σ (ς ⟨g,0,ν⟩) n cap:=by
 rcases h.2 with ⟨e1,e2⟩ | ⟨g,cap,cur,e1,-⟩
 · exact Xc ⟨e1,e2⟩
 · exact Xi ⟨g,cap,e1⟩
theorem RO.ol{G:Nat}{D:Nat->Prop}{w:ο}{v:XU}{n:Nat}{x:Nat->Rw}{f:Nat->List XU}(h:RO G D w v n x f):∃ a c,v=σ a n c/\OL w a n (λi=>(x i).1) (λi=>(x i).2):=by
 rcases Cx h.own with ⟨rfl,rfl⟩ | ⟨g,cap,rfl⟩
 · exact⟨ν,0,rfl,λk hk=>by omega⟩
 · refine⟨ς ⟨g,0,ν⟩,cap,rfl,λk hk=>?_⟩;obtain⟨a,c,e,hI,hs⟩:=(h.liv k hk).now;have:=h.cell (j:=0) hk (by omega);rw [e] at this;refine⟨g,0,a,c,rfl,?_,hI,hs⟩;rw [XT];simpa using this
theorem RO.olv{G:Nat}{D:Nat->Prop}{w:ο}{g cap n:Nat}{x:Nat->Rw}{f:Nat->List XU}(h:RO G D w (σ (ς ⟨g,0,ν⟩) n cap) n x f)(hG:∀ b,G<=b->D b):Liv D w (λw=>OL w (ς ⟨g,0,ν⟩) n (λi=>(x i).1) (λi=>(x i).2)):=λw' k i hi=>by
 have hl:=(h.own.lt g rfl).1;obtain⟨a,c,e,hI,hs⟩:=(h.liv i hi) w' (λp u hp hc=>k p u hp.1 hc);have:=h.cell (j:=0) hi (by omega);rw [e] at this;refine⟨g,0,a,c,rfl,k _ _ (hG _ hl) ?_,hI,hs⟩;rw [XT];simpa using this
theorem TO.tl{G:Nat}{D:Nat->Prop}{w:ο}{v:XU}{n:Nat}{x:Nat->Td}{f:Nat->List XU}(h:TO G D w v n x f):∃ a c,v=σ a n c/\TL w a n x:=by
 rcases Cx h.own with ⟨rfl,rfl⟩ | ⟨g,cap,rfl⟩
 · exact⟨ν,0,rfl,λk hk=>by omega⟩
 ·
  refine⟨ς ⟨g,0,ν⟩,cap,rfl,λk hk=>?_⟩;obtain⟨ac,cc,ar,cr,e,hC,hR,hs⟩:=(h.liv k hk).now;have h0:=h.cell (j:=0) hk (by omega);have h1:=h.cell (j:=1) hk (by omega);have h2:=h.cell (j:=2) hk (by omega);rw [e] at h0 h1 h2;refine⟨g,0,ac,cc,ar,cr,rfl,?_,?_,?_,hC,hR,hs⟩
  · rw [XT];simpa using h0
  · rw [XT];simpa using h1
  · rw [XT];simpa using h2
theorem GD(b off n:Nat):(⟨b,off+n,ν⟩:Addr)=(⟨b,off,ν⟩:Addr).add n:=by
 unfold Addr.add;split
 · rename_i h;subst h;rfl
 · rfl
def c2(x:Clm):List XU:=[τ x.s,ι κ x.t]
theorem IL.news{w:ο}{ad:Addr}{n:Nat}{I:Nat->Itm}(h:IL w (ς ad) n I):∀ q u,(CH (λk=>v3 (I k)) n)[q]?=ς u->w.cell? (ad.add q)=ς u:=by
 refine Hg (sz:=3) (by omega) (λk _=>rfl) (P:=λq u=>w.cell? (ad.add q)=ς u) (λi hi j u hu=>?_);obtain⟨b,off,e,c0,c1,c2,-⟩:=h i hi;obtain rfl:ad=⟨b,off,ν⟩:=XM e;match j,hu with
 | 0,hu=>
  obtain rfl:ι κ (I i).o=u:=XM hu;rw [Xm,←GD];exact c0
 | 1,hu=>
  obtain rfl:ι κ (I i).m=u:=XM hu;exact c1
 | 2,hu=>
  obtain rfl:τ (I i).s=u:=XM hu;exact c2
theorem CL.news{w:ο}{ad:Addr}{n:Nat}{C:Nat->Clm}(h:CL w (ς ad) n C):∀ q u,(CH (λk=>c2 (C k)) n)[q]?=ς u->w.cell? (ad.add q)=ς u:=by
 refine Hg (sz:=2) (by omega) (λk _=>rfl) (P:=λq u=>w.cell? (ad.add q)=ς u) (λi hi j u hu=>?_);obtain⟨b,off,e,c0,c1,-⟩:=h i hi;obtain rfl:ad=⟨b,off,ν⟩:=XM e;match j,hu with
 | 0,hu=>
  obtain rfl:τ (C i).s=u:=XM hu;rw [Xm,←GD];exact c0
 | 1,hu=>
  obtain rfl:ι κ (C i).t=u:=XM hu;exact c1
theorem E5{w:ο}{G g cap n:Nat}{I:Nat->Itm}(h:w.ownsRow G 94 3 (σ (ς ⟨g,0,ν⟩) n cap) n (CH (λk=>v3 (I k)) n))(hs:∀ k,k<n->(I k).s.size<=1048576):IL w (ς ⟨g,0,ν⟩) n I:=λk hk=>by
 have key:∀ j,j<3->w.cell? ⟨g,k * 3+j,ν⟩=(v3 (I k))[j]?:=λj hj=>(h.cellAt _ (by omega)).trans (Es (sz:=3) (λ_ _=>rfl) hk hj);refine⟨g,0,rfl,?_,?_,?_,hs k hk⟩
 · rw [XT];exact key 0 (by omega)
 · rw [XT];exact key 1 (by omega)
 · rw [XT];exact key 2 (by omega)
theorem Sz{w:ο}{G g cap n:Nat}{C:Nat->Clm}(h:w.ownsRow G 92 2 (σ (ς ⟨g,0,ν⟩) n cap) n (CH (λk=>c2 (C k)) n))(hs:∀ k,k<n->(C k).s.size<=1048576):CL w (ς ⟨g,0,ν⟩) n C:=λk hk=>by
 have key:∀ j,j<2->w.cell? ⟨g,k * 2+j,ν⟩=(c2 (C k))[j]?:=λj hj=>(h.cellAt _ (by omega)).trans (Es (sz:=2) (λ_ _=>rfl) hk hj);refine⟨g,0,rfl,?_,?_,hs k hk⟩
 · rw [XT];exact key 0 (by omega)
 · rw [XT];exact key 1 (by omega)
theorem PY(I:Nat->Itm)(n:Nat):∀ u∈CH (λk=>v3 (I k)) n,u.oneCell'=true:=DE λk _ u hu=>by
 simp only [v3,List.mem_cons,List.not_mem_nil,or_false] at hu
 rcases hu with rfl | rfl | rfl <;> rfl
theorem Wd(C:Nat->Clm)(n:Nat):∀ u∈CH (λk=>c2 (C k)) n,u.oneCell'=true:=DE λk _ u hu=>by
 simp only [c2,List.mem_cons,List.not_mem_nil,or_false] at hu
 rcases hu with rfl | rfl <;> rfl
theorem Pe(I:Nat->Itm)(n:Nat):(CH (λk=>v3 (I k)) n).length=n * 3:=CW λ_ _=>rfl
theorem Wi(C:Nat->Clm)(n:Nat):(CH (λk=>c2 (C k)) n).length=n * 2:=CW λ_ _=>rfl
set_option maxHeartbeats 16000000
theorem CA{W:ο}{R:Nat}{x:XU}{t:TypeId}(h:W.heap[R]?=ς (γ #[x] t (0,0)))(v:XU):(W.setCell ⟨R,0,ν⟩ v).heap[R]?=ς (γ #[v] t (0,0)):=π _ _ 0 _ _ v h
theorem AN{W:ο}{R:Nat}{x:XU}{t:TypeId}(h:W.heap[R]?=ς (γ #[x] t (0,0))):W.cell? ⟨R,0,ν⟩=ς x/\W.frozen? ⟨R,0,ν⟩=false:=⟨ε _ _ 0 _ _ _ h,ζ _ _ 0 _ _ h⟩
def Kg(n:Nat)(T:Nat->Td):Prop:=∀ k,k<n->0<(T k).n/\∀ i,i<(T k).r->0<(T k).m i
theorem Bm{w:ο}{base e size n B i:Nat}{v u:XU}{xs:List XU}(h:w.ownsRow base e size v n xs)(hB:B<base):(w.setCell ⟨B,i,ν⟩ u).ownsRow base e size v n xs:=by
 obtain⟨hl,hh⟩:=h;refine⟨hl,?_⟩;rcases hh with hh | ⟨g,cap,cur,e1,e2,e3,e4⟩
 · exact Xc hh
 · exact Xi ⟨g,cap,cur,e1,e2,AS e3 (by omega),e4⟩
theorem GO.set{α:Type}{T sz G B i:Nat}{D:Nat->Prop}{E:List XU->α->ο->Prop}{w:ο}{v u:XU}{n:Nat}{x:Nat->α}{f:Nat->List XU}(h:GO T sz G D E w v n x f)(hG:B<G)(hD:¬D B):GO T sz G D E (w.setCell ⟨B,i,ν⟩ u) v n x f:=
 ⟨Bm h.own hG,h.len,λi hi=>(h.liv i hi).set (λhx=>hD hx.1)⟩
theorem B9{w w':ο}{q:Nat}{o:Obj}{r:Option Nat}(h:w.heap[q]?=ς o)(hg:w.grownBy w' r)(hne:ς q≠r):w'.heap[q]?=ς o:=(hg.block q (XS.1 h).1 hne).trans h
theorem Ik{W a b:ο}{r:Option Nat}(h:υ W.heap.size W a)(g:a.grownBy b r)(hB:∀ x,x<W.heap.size->ς x≠r):υ W.heap.size W b:=
 ⟨g.os.trans h.os,g.tape.trans h.tape,g.output.trans h.output,Xe h.size g.size,λk hk=>(g.block k (Nat.lt_of_lt_of_le hk h.size) (hB k hk)).trans (h.block k hk)⟩
theorem TO.tlv{G:Nat}{D:Nat->Prop}{w:ο}{a:Option Addr}{n c:Nat}{x:Nat->Td}{f:Nat->List XU}(h:TO G D w (σ a n c) n x f)(hG:∀ b,G<=b->D b):Liv D w (λw=>TL w a n x):=λw' k i hi=>by
 rcases Cx h.own with ⟨-,rfl⟩ | ⟨g,cap,e⟩
 · omega
 obtain⟨rfl,-,rfl⟩:a=ς ⟨g,0,ν⟩/\n=n/\c=cap:=by simpa using e
 have hl:=(h.own.lt g rfl).1;obtain⟨ac,cc,ar,cr,e,hC,hR,hs⟩:=(h.liv i hi) w' (λp u hp hc=>k p u hp.1 hc);have h0:=h.cell (j:=0) hi (by omega);have h1:=h.cell (j:=1) hi (by omega);have h2:=h.cell (j:=2) hi (by omega);rw [e] at h0 h1 h2;refine⟨g,0,ac,cc,ar,cr,rfl,k _ _ (hG _ hl) ?_,k _ _ (hG _ hl) ?_,k _ _ (hG _ hl) ?_,hC,hR,hs⟩
 · rw [XT];simpa using h0
 · rw [XT];simpa using h1
 · rw [XT];simpa using h2
theorem CQ(a:Option Addr)(n c:Nat)(T:Nat->Td)(w:ο)(h:TL w a n T)(hn:n<=1048576)(hF:Kg n T) :
 XR μ 74 #[χ #[σ a n c]] w λe w'=>∃ a' c',e=ρ (χ #[σ a' n c'])/\Liv (λb=>w.heap.size<=b) w' (λv=>TL v a' n T)/\υ w.heap.size w w':=by
 obtain⟨j2,hi2,hz20,hz21,hz22⟩:=info_parts Tryz.infoCol;have HI2:Hid (Tryz.prog.info? 92=ς j2):=hi2;obtain⟨j3,hi3,hz30,hz31,hz32⟩:=info_parts Tryz.infoVal;have HI3:Hid (Tryz.prog.info? 94=ς j3):=hi3;obtain⟨jr,hir,hzr0,hzr1,hzr2⟩:=info_parts Tryz.infoRow;have HIr:Hid (Tryz.prog.info? 60=ς jr):=hir;obtain⟨jt,hit,hzt0,hzt1,hzt2⟩:=info_parts Tryz.infoTab;have HIt:Hid (Tryz.prog.info? 100=ς jt):=hit;clear hi2 hi3 hir hit;have HF:Hid (Kg n T):=hF;clear hF;have hbU:υ w.heap.size w (((w.alloc (γ #[σ a n c] 45)).alloc (γ #[σ ν 0 0] 45)).alloc (γ #[σ ν 0 0] 45)):=A7 _ _ _ _;have hsU:(((w.alloc (γ #[σ a n c] 45)).alloc (γ #[σ ν 0 0] 45)).alloc (γ #[σ ν 0 0] 45)).heap.size=w.heap.size+3:=by rw [ω,ω,ω]
 have hq2:(((w.alloc (γ #[σ a n c] 45)).alloc (γ #[σ ν 0 0] 45)).alloc (γ #[σ ν 0 0] 45)).heap[w.heap.size+1]?=ς (γ #[σ ν 0 0] 45 (0,0)):=by
  have q:=η (w.alloc (γ #[σ a n c] 45)) (γ #[σ ν 0 0] 45);rw [ω] at q;exact AC q (AE _ _)
 have hq3:(((w.alloc (γ #[σ a n c] 45)).alloc (γ #[σ ν 0 0] 45)).alloc (γ #[σ ν 0 0] 45)).heap[w.heap.size+1+1]?=ς (γ #[σ ν 0 0] 45 (0,0)):=by
  have q:=η ((w.alloc (γ #[σ a n c] 45)).alloc (γ #[σ ν 0 0] 45)) (γ #[σ ν 0 0] 45);rw [ω,ω] at q;exact q
 go_enter Tryz.func74,Tryz.ntmps74
 go_wp2;go_loopw [5,6,8,13] (λ_ _ _ i wr=>∃ (k:Nat) (v:XU) (f:Nat->List XU),k<=n/\i=ι κ k/\TO (w.heap.size+3) (λb=>w.heap.size+3<=b) wr v k T f/\wr.heap[w.heap.size+1]?=ς (γ #[σ ν 0 0] 45 (0,0))/\wr.heap[w.heap.size+1+1]?=ς (γ #[v] 45 (0,0))/\υ w.heap.size w wr/\w.heap.size+3<=wr.heap.size) (λ_ _ _ i _=>n - (XX i).toNat)
 case atStart=>exact⟨0,σ ν 0 0,λ_=>[],by omega,rfl,GO.nil (World.ownsRow_nil _ _ _ _),hq2,hq3,hbU,by rw [hsU];exact XK _⟩
 case round=>
  obtain⟨k,v,f,hk,rfl,hTO,hr2,hr3,hb,hsz⟩:=hrel;obtain⟨x2,y2⟩:=AN hr2;obtain⟨x3,y3⟩:=AN hr3;by_cases hlt:k<n
  rotate_left
  ·
   obtain rfl:k=n:=by omega
   obtain⟨a',c',rfl,-⟩:=TO.tl hTO;go_wp2;refine XL (v:=χ #[σ a' k c']) ?_ rfl ?_
   · exact Xd Tryz.results74 _ _ (w.heap.size+1) 45 _ (0,0) _ rfl (CA hr2 _) Tryz.underlying45 rfl (by kernel_rfl)
   · exact⟨a',c',rfl,(TO.tlv (hTO.set (B:=w.heap.size+1) (i:=0) (u:=σ a' k c') (by omega) (by omega)) (λ_ h=>h)).wide (λb hb _=>by omega),Al hb (by omega)⟩
  obtain⟨wo,hwo⟩:∃ v,v=wr:=⟨_,rfl⟩;subst hwo;have hp:=HF.out k hlt;obtain⟨b,off,ac,cc,ar,cr,rfl,e0,e1,e2,hC,hR,hS3⟩:=h.later hb k hlt;obtain⟨s,nc,C,r,m,R,hTk⟩:∃ s nc C r m R,T k=⟨s,nc,C,r,m,R⟩:=⟨_,_,_,_,_,_,rfl⟩;rw [hTk] at e0 e1 e2 hC hR hS3 hp;simp only at e0 e1 e2 hC hR hp
  have HTK:Hid (T k=⟨s,nc,C,r,m,R⟩):=hTk;clear hTk;obtain⟨hp1,hp2⟩:=hp;have HP2:Hid (∀ i,i<r->0<m i):=hp2;clear hp2;obtain⟨b1,off1,rfl,-⟩:=hC 0 hp1;have hnc:=hS3.co.1;have hrr:=hS3.ro.1;simp only at hnc hrr
  have HsA:Hid ((wo.alloc (γ #[τ s,σ (ς ⟨b1,off1,ν⟩) nc cc,σ ar r cr] 100)).heap.size=wo.heap.size+1):=ω _ _;have HRA:Hid (((wo.alloc (γ #[τ s,σ (ς ⟨b1,off1,ν⟩) nc cc,σ ar r cr] 100)).alloc (γ #[] 92)).heap[wo.heap.size]?=ς (γ #[τ s,σ (ς ⟨b1,off1,ν⟩) nc cc,σ ar r cr] 100 (0,0))):=AC (η wo _) (AE _ _);have HOE:Hid (((wo.alloc (γ #[τ s,σ (ς ⟨b1,off1,ν⟩) nc cc,σ ar r cr] 100)).alloc (γ #[] 92)).ownsRow (wo.heap.size+1) 92 2 (σ (ς ⟨wo.heap.size+1,0,ν⟩) 0 0) 0 []):=by
   have q:=Xb (base:=wo.heap.size+1) (e:=92) (size:=2) (wo.alloc (γ #[τ s,σ (ς ⟨b1,off1,ν⟩) nc cc,σ ar r cr] 100)) #[] 0 (by rw [HsA.out];omega) (by unfold maxLen;omega) rfl;rw [HsA.out] at q;exact q
  go_wp2_with (first | (at_builtin;refine wpList_append_own _ rfl _ _ 59 rfl (wo.heap.size+1) 92 j2 (χ #[τ XN,ι κ 0]) 2 24 Tryz.underlying59 HI2.out hz20 hz21 hz22 rfl (by omega) (σ (ς ⟨wo.heap.size+1,0,ν⟩) 0 0) 0 [] rfl HOE.out ⟨b1,off1,ν⟩ nc cc (CH (λk=>c2 (C k)) nc) rfl (Wi _ _) (CL.news (hC.later (AA (AE _ _) (AE _ _)))) (Wd _ _) (by unfold maxLen;omega) (by omega) (by simp <;> omega) ?_;intro v1 w5 hO5 hgr5 hnil5;obtain⟨g5,cap5,rfl⟩:=Ac hO5 (λe=>by have:=hnil5.1 e;simp at this);rw [XT,Xk] at hO5;replace hgr5:World.grownBy _ w5 (ς (wo.heap.size+1)):=hgr5;have hr5:=GH HRA.out hgr5 (by omega);have hg5:=(hO5.lt g5 rfl);have hb5:υ wo.heap.size wo w5:=gB (AA (AE _ _) (AE _ _)) hgr5 (by omega);obtain⟨p0,p1,p2,pf0,pf1,pf2⟩:=AX hr5;have HRZ:Hid ((w5.setCell ⟨wo.heap.size,1,ν⟩ (σ (ς ⟨g5,0,ν⟩) nc cap5)).heap[wo.heap.size]?=ς (γ #[τ s,σ (ς ⟨g5,0,ν⟩) nc cap5,σ ar r cr] 100 (0,0))):=π _ _ 1 _ _ _ hr5;have p9:=AB (AE (w5.setCell ⟨wo.heap.size,1,ν⟩ (σ (ς ⟨g5,0,ν⟩) nc cap5)) (γ #[] 60)) (AX HRZ.out).2.2.1;clear hnil5))
  have hbZ:υ wo.heap.size wo (w5.setCell ⟨wo.heap.size,1,ν⟩ (σ (ς ⟨g5,0,ν⟩) nc cap5)):=Al hb5 (XK _);have HCZ:Hid (CL (w5.setCell ⟨wo.heap.size,1,ν⟩ (σ (ς ⟨g5,0,ν⟩) nc cap5)) (ς ⟨g5,0,ν⟩) nc C):=Sz (Bm hO5 (by omega)) hS3.co.2;have hzs:(w5.setCell ⟨wo.heap.size,1,ν⟩ (σ (ς ⟨g5,0,ν⟩) nc cap5)).heap.size=w5.heap.size:=Xl _ _ _;clear p9;generalize (w5.setCell ⟨wo.heap.size,1,ν⟩ (σ (ς ⟨g5,0,ν⟩) nc cap5))=z at hbZ HRZ HCZ hzs ⊢;clear p0 p1 p2 pf0 pf1 pf2 hr5 hb5;have hsz5:=hbZ.size;have hO6:(z.alloc (γ #[] 60)).ownsRow z.heap.size 60 1 (σ (ς ⟨z.heap.size,0,ν⟩) 0 0) 0 []:=Xb z #[] 0 (XK _) (by unfold maxLen;omega) rfl;go_loopw [6,8,26] (λv6 _ i wr=>∃ (q g cap:Nat) (f6:Nat->List XU),q<=r/\i=ι κ q/\v6=σ (ς ⟨g,0,ν⟩) q cap/\RO z.heap.size (λb=>z.heap.size<=b) wr (σ (ς ⟨g,0,ν⟩) q cap) q (λi=>(m i,R i)) f6/\υ z.heap.size z wr) (λ_ _ i _=>r - (XX i).toNat)
  case atStart=>exact⟨0,z.heap.size,0,λ_=>[],by omega,rfl,by rw [hzs],GO.nil hO6,AE _ _⟩
  case round=>
   obtain⟨q,g,cap,f6,hq,rfl,rfl,hRO,hbx⟩:=hrel;have hbxr:=AA hbZ hbx;have hgl:=hRO.own.lt g rfl;by_cases hql:q<r
   ·
    obtain⟨bR,offR,ai,ci,rfl,d0,hI,hmI⟩:=hR.later hbxr q hql;obtain⟨b7,off7,rfl,-⟩:=hI 0 (HP2.out q hql);have HOE7:Hid ((wr.alloc (γ #[] 94)).ownsRow wr.heap.size 94 3 (σ (ς ⟨wr.heap.size,0,ν⟩) 0 0) 0 []):=Xb wr #[] 0 (XK _) (by unfold maxLen;omega) rfl;have hqr:(q:Int)<r:=by omega
    go_wp2_with (first | (at_builtin;have _h:=hb7;refine XY _ rfl _ _ _ rfl z.heap.size 60 jr (σ ν 0 0) 1 24 Tryz.underlying36 HIr.out hzr0 hzr1 hzr2 rfl (by omega) (σ (ς ⟨g,0,ν⟩) q cap) q (CH f6 q) rfl (hRO7.later (AE _ _)).own ⟨w7.heap.size,0,ν⟩ 1 1 [(σ (ς ⟨g7,0,ν⟩) (m q) cap7)] rfl rfl (XP (η w7 _)) (Bu _ rfl) (by omega) (by unfold maxLen;omega) (by omega) (by have:=hb7.size;have:=hbx.size;simp;omega) _ rfl ?_;intro g8 cap8 w8 hO8 hgr8 hat8 hlt8) | (at_builtin;refine wpList_append_own _ rfl _ _ 60 rfl wr.heap.size 94 j3 (χ #[ι κ 0,ι κ 0,τ XN]) 3 32 Tryz.underlying60 HI3.out hz30 hz31 hz32 rfl (by omega) (σ (ς ⟨wr.heap.size,0,ν⟩) 0 0) 0 [] rfl HOE7.out ⟨b7,off7,ν⟩ (m q) ci (CH (λk=>v3 (R q k)) (m q)) rfl (Pe _ _) (IL.news (hI.later (AE _ _))) (PY _ _) (by unfold maxLen;omega) (by omega) (by simp) ?_;intro v1 w7 hO7 hgr7 hnil7;obtain⟨g7,cap7,rfl⟩:=Ac hO7 (λe=>by have:=hnil7.1 e;simp at this);rw [XT,Xk] at hO7;replace hgr7:World.grownBy _ w7 (ς wr.heap.size):=hgr7;have hb7:υ wr.heap.size wr w7:=gB (AE _ _) hgr7 (XK _);have hRO7:=hRO.later hb7;have hg7:=(hO7.lt g7 rfl).1;clear hnil7))
    have hIL:=E5 hO7 (hS3.ro.2 q hql).2;have hL7:Liv (λb=>z.heap.size<=b/\ς b≠(σ (ς ⟨g,0,ν⟩) q cap).ownBlock) w7 (ER [(σ (ς ⟨g7,0,ν⟩) (m q) cap7)] (m q,R q)):=(hIL.liv (λb off e=>by
     obtain⟨rfl,-⟩:g7=b/\0=off:=by simpa using e
     refine⟨by have:=hbx.size;omega,?_⟩;show ς g7≠ς g
     intro e2;have e3:g7=g:=XM e2;omega)).imp (λ_ h=>⟨_,_,rfl,h,hmI⟩)
    have hP:=GO.push (x:=λi=>(m i,R i)) (hRO7.later (AE _ _)) (c:=[(σ (ς ⟨g7,0,ν⟩) (m q) cap7)]) rfl (hL7.later (AE _ _)) hO8 hgr8 hat8;have hb8:=gB (AA (AA hbx hb7) (AE _ _)) (r:=g) hgr8 hgl.1;go_roundw
    case rel=>exact⟨q+1,g8,cap8,_,by omega,by go_num,rfl,hP,hb8⟩
    case measure=>simp [XX];omega
   ·
    obtain rfl:q=r:=by omega
    have hRx:=AC HRZ.out hbx;obtain⟨p0,p1,p2,pf0,pf1,pf2⟩:=AX hRx;have hRY:(wr.setCell ⟨wo.heap.size,2,ν⟩ (σ (ς ⟨g,0,ν⟩) q cap)).heap[wo.heap.size]?=ς (γ #[τ s,σ (ς ⟨g5,0,ν⟩) nc cap5,σ (ς ⟨g,0,ν⟩) q cap] 100 (0,0)):=π _ _ 2 _ _ _ hRx;obtain⟨y0,y1,y2,-⟩:=AX hRY;have hbY:υ wo.heap.size wo (wr.setCell ⟨wo.heap.size,2,ν⟩ (σ (ς ⟨g,0,ν⟩) q cap)):=Al hbxr (XK _);have hr3Y:=AC hr3 hbY;have hr2Y:=AC hr2 hbY;obtain⟨z3,-⟩:=AN hr3Y;have hTOY:=hTO.later hbY;have hsY:(wr.setCell ⟨wo.heap.size,2,ν⟩ (σ (ς ⟨g,0,ν⟩) q cap)).heap.size=wr.heap.size:=Xl _ _ _;have HNW:Hid (∀ j u,([τ s,σ (ς ⟨g5,0,ν⟩) nc cap5,σ (ς ⟨g,0,ν⟩) q cap]:List XU)[j]?=ς u->((wr.setCell ⟨wo.heap.size,2,ν⟩ (σ (ς ⟨g,0,ν⟩) q cap)).alloc (γ #[τ s,σ (ς ⟨g5,0,ν⟩) nc cap5,σ (ς ⟨g,0,ν⟩) q cap] 100)).cell? ((⟨wr.heap.size,0,ν⟩:Addr).add j)=ς u):=by
     have:=XP (η (wr.setCell ⟨wo.heap.size,2,ν⟩ (σ (ς ⟨g,0,ν⟩) q cap)) (γ #[τ s,σ (ς ⟨g5,0,ν⟩) nc cap5,σ (ς ⟨g,0,ν⟩) q cap] 100));rw [hsY] at this;exact this
    have HVB:Hid (∀ b,wo.heap.size<=b∨b<w.heap.size+3->ς b≠v.ownBlock):=by
     intro b hbb;rcases Cx hTO.own with ⟨rfl,-⟩ | ⟨g0,cap0,rfl⟩
     · intro e;cases e
     · have:=hTO.own.lt g0 rfl;intro e;have e3:b=g0:=XM e;omega
    go_wp2_with (first | (at_builtin;refine XY _ rfl _ _ _ rfl (w.heap.size+3) 100 jt (χ #[τ XN,σ ν 0 0,σ ν 0 0]) 3 64 Tryz.underlying43 HIt.out hzt0 hzt1 hzt2 rfl (by omega) v k (CH f k) rfl (hTOY.later (AE _ _)).own ⟨wr.heap.size,0,ν⟩ 1 1 [τ s,σ (ς ⟨g5,0,ν⟩) nc cap5,σ (ς ⟨g,0,ν⟩) q cap] rfl rfl HNW.out (by intro u hu;simp only [List.mem_cons,List.not_mem_nil,or_false] at hu;rcases hu with rfl | rfl | rfl <;> rfl) (by omega) (by unfold maxLen;omega) (by omega) (by have:=hbxr.size;simp;omega) _ rfl ?_;intro g9 cap9 w9 hO9 hgr9 hat9 hlt9;have hr9:=B9 (AC hr3Y (AE _ _)) hgr9 (HVB.out _ (by omega));obtain⟨m9,n9⟩:=AN hr9))
    have hsx:=hbxr.size;have hCY:=(((HCZ.out.later hbx).liv (X:=λb=>wo.heap.size<b) (λb off e=>by
     obtain⟨rfl,-⟩:g5=b/\0=off:=by simpa using e
     omega)).set (B:=wo.heap.size) (i:=2) (v:=σ (ς ⟨g,0,ν⟩) q cap) (by omega)).wide (Y:=λb=>w.heap.size+3<=b/\ς b≠v.ownBlock) (λb hx _=>⟨by omega,HVB.out b (by omega)⟩)
    have hOY:=((RO.olv hRO (λ_ h=>h)).set (B:=wo.heap.size) (i:=2) (v:=σ (ς ⟨g,0,ν⟩) q cap) (by omega)).wide (Y:=λb=>w.heap.size+3<=b/\ς b≠v.ownBlock) (λb hx _=>⟨by omega,HVB.out b (by omega)⟩);have hLT:Liv (λb=>w.heap.size+3<=b/\ς b≠v.ownBlock) (wr.setCell ⟨wo.heap.size,2,ν⟩ (σ (ς ⟨g,0,ν⟩) q cap)) (ET [τ s,σ (ς ⟨g5,0,ν⟩) nc cap5,σ (ς ⟨g,0,ν⟩) q cap] (T k)):=(hCY.and hOY).imp (λ_ h=>by rw [HTK.out];exact⟨_,_,_,_,rfl,h.1,h.2,hS3⟩);have hP:=GO.push (hTOY.later (AE _ _)) (c:=[τ s,σ (ς ⟨g5,0,ν⟩) nc cap5,σ (ς ⟨g,0,ν⟩) q cap]) rfl (hLT.later (AE _ _)) hO9 hgr9 (by rw [ω] at hat9 ⊢;exact hat9);go_roundw
    case rel=>exact⟨k+1,_,_,by omega,by go_num,hP.set (by omega) (by omega),AS (B9 (AC hr2Y (AE _ _)) hgr9 (HVB.out _ (by omega))) (by omega),CA hr9 _,Al (Ik (AA hb (AA hbY (AE _ _))) hgr9 (λx hx=>HVB.out x (by omega))) (by omega),by rw [Xl];exact Xe hsz (Xe (AA hbY (AE _ _)).size hgr9.size)⟩
    case measure=>simp [XX];omega
