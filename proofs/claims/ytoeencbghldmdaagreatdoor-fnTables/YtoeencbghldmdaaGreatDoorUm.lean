import Derived.Test.YtoeencbghldmdaaGreatDoorUf
open Array renaming getElem?_eq_some_iff → VL
open Bool renaming and_eq_true → VO
open ByteArray renaming empty → VG
open Go renaming Calls → VK, World → ο, Value → VN, bodyPost_ret → VE, cell_of_row → ε, frozen_of_row → ζ, heap_alloc_new → η, heap_setCell_same → π, results_cell_row → VW, wpList_append_lies → VR, wpAnyH_done → VP, wp_region_held_drew → VH
open Go.Ending renaming returned → ρ
open Go.IntKind renaming i64 → κ
open Go.Obj renaming cells → γ
open Go.Op renaming bytesLess → Va
open Go.Proofs.Tryz renaming prog → μ
open Go.RowKit renaming Below → υ, intOf → VQ
open Go.RowKit.Below renaming refl → VT
open Go.Value renaming agg → χ, bool → β, int → ι, slice → σ, string → τ, tuple → θ
open Go.World renaming news_of_block → VI, ownsRow_made → VU, size_alloc → ω, size_setCell → Ve
open List renaming length_append → VJ, nil_append → Vd
open Nat renaming add_zero → Vf, zero_add → VM, le_refl → VD, le_trans → VX, not_lt_zero → Vc
open Option renaming none → ν, some → ς
open Option.some renaming inj → VF
open Or renaming inl → VV, inr → Vb
namespace Go.Proofs.YtoeencbghldmdaaGreatDoor
open Go.RowKit Go.Maps Go.WideMaps
set_option maxRecDepth 20000
set_option maxHeartbeats 8000000
def CM(C:Nat->Clm)(n:Nat)(I:Nat->Itm)(m:Nat):Int:=if m=0 then 0 else if (DA C n I m).2=0/\¬(DA C n I m).1=1 then 4 else (DA C n I m).2
def Bp(C:Nat->Clm)(n:Nat)(R:Nat->Itm)(I:Nat->Itm)(m:Nat):Bool:=decide (m=0) || !decide ((Bv C n R I m).m=0)
theorem BX{I:Nat->Itm}{m:Nat}(h:AZ I m=true):m<=100/\0<m/\ex I m=ς 1:=by
 simp only [AZ,Bn,VO,decide_eq_true_eq] at h
 exact⟨by omega,by omega,h.2⟩
theorem CY{I:Nat->Itm}{m:Nat}(h:AI I m=true)(h0:¬m=0):m<=100/\0<m/\ex I m=ς 1:=by
 simp only [AI,Bool.or_eq_true,decide_eq_true_eq] at h
 exact BX (h.resolve_left h0)
theorem FO{C:Nat->Clm}{n:Nat}{I:Nat->Itm}{m:Nat}(h:(DA C n I m).2=0):(ck C n I m).2=0:=by
 unfold DA at h;split at h
 · exact h
 ·
  rename_i e
  simpa using e
theorem Ol{C:Nat->Clm}{n:Nat}{I:Nat->Itm}{m:Nat}(h:CM C n I m=0)(h0:¬m=0):(ck C n I m).2=0:=by
 unfold CM at h;rw [if_neg h0] at h;split at h
 · omega
 · exact FO h
theorem Io(ac:Option Addr)(n cc:Nat)(C:Nat->Clm)(a:Option Addr)(m c:Nat)(I:Nat->Itm)(w:ο)(hC:CL w ac n C)(hI:IL w a m I)(hn:n<=1048576)(hok:AI I m=true) :
 VK μ 26 #[σ ac n cc,σ a m c] w λe w'=>e=ρ (ι κ (CM C n I m))/\υ w.heap.size w w':=by
 by_cases h0:m=0
 ·
  subst h0;go_enter Tryz.func26,Tryz.ntmps26
  go_wp2;go_ret
  exact⟨by simp [CM],VT _ _⟩
 ·
  obtain⟨h1,h2,h3⟩:=CY hok h0;have H3:Hid (ex I m=ς 1):=h3;clear h3 hok;have n0:((m:Int) == 0)=false:=by simp;omega
  obtain⟨k,cd,hk⟩:∃ k cd,DA C n I m=(k,cd):=⟨_,_,rfl⟩;have HK:Hid (DA C n I m=(k,cd)):=hk;have HC:=Ku ac n cc C a m c I w hC hI hn h1 H3.out;rw [hk] at HC;clear hk h0;by_cases e0:cd=0
  ·
   subst e0;by_cases e1:k=1
   ·
    subst e1;go_enter Tryz.func26,Tryz.ntmps26
    go_wp2_with (go_at_call 25;refine HC.mono ?_;rintro e w1 ⟨rfl,hb1⟩)
    go_ret
    exact⟨by unfold CM;rw [HK.out,if_neg (by omega),if_neg (by simp)];rfl,hb1⟩
   ·
    have n1:(k == 1)=false:=by simpa using e1
    have n2:(k != 1)=true:=by simpa using e1
    have HE:Hid (¬k=1):=e1;clear e1;go_enter Tryz.func26,Tryz.ntmps26
    go_wp2_with (go_at_call 25;refine HC.mono ?_;rintro e w1 ⟨rfl,hb1⟩)
    go_ret
    exact⟨by unfold CM;rw [HK.out,if_neg (by omega),if_pos ⟨rfl,HE.out⟩];rfl,hb1⟩
  ·
   have n1:(cd == 0)=false:=by simpa using e0
   have HE:Hid (¬cd=0):=e0;clear e0;go_enter Tryz.func26,Tryz.ntmps26
   go_wp2_with (go_at_call 25;refine HC.mono ?_;rintro e w1 ⟨rfl,hb1⟩)
   go_ret
   exact⟨by unfold CM;rw [HK.out,if_neg (by omega),if_neg (λh=>HE.out h.1)];rfl,hb1⟩
theorem Tryz.fieldVal(o m:Int)(s:ByteArray)(v:ο):(Instr.field 60 (χ #[ι κ o,ι κ m,τ s]) 1).run μ v=.ok (ι κ m) v:=by kernel_rfl
theorem NX(ac:Option Addr)(n cc:Nat)(C:Nat->Clm)(ar:Option Addr)(cr:Nat)(R:Nat->Itm)(a:Option Addr)(m c:Nat)(I:Nat->Itm)(w:ο)(hC:CL w ac n C)(hR:IL w ar n R)(hI:IL w a m I)(hn:n<=1048576)(hok:AI I m=true)(hk0:CM C n I m=0)(hz:∀ j,j<n->(R j).s.size<=200) :
 VK μ 36 #[σ ac n cc,σ ar n cr,σ a m c] w λe w'=>e=ρ (β (Bp C n R I m))/\υ w.heap.size w w':=by
 by_cases h0:m=0
 ·
  subst h0;go_enter Tryz.func36,Tryz.ntmps36
  go_wp2;go_ret
  exact⟨by simp [Bp],VT _ _⟩
 ·
  obtain⟨h1,h2,h3⟩:=CY hok h0;have n0:((m:Int) == 0)=false:=by simp;omega
  have HV:=NV ac n cc C ar cr R a m c I w hC hR hI hn h1 h3 (Ol hk0 h0) hz;obtain⟨x,hx⟩:∃ x,Bv C n R I m=x:=⟨_,rfl⟩;have HB:Hid (Bp C n R I m=!decide (x.m=0)):=by show _=_;unfold Bp;rw [hx];simp [h0]
  rw [hx] at HV;clear hx h0 h3 hok hk0 hz;obtain⟨xo,xm,xs⟩:=x;by_cases e:xm=0
  ·
   subst e;have hfd:∀ v:ο,(Instr.field 60 (χ #[ι κ xo,ι κ 0,τ xs]) 1).run μ v=.ok (ι κ 0) v:=λv=>Tryz.fieldVal _ _ _ v;go_enter Tryz.func36,Tryz.ntmps36
   go_wp2_with (go_at_call 37;refine HV.mono ?_;rintro e w1 ⟨rfl,hb1⟩)
   go_ret
   exact⟨by rw [HB.out];rfl,hb1⟩
  ·
   have n1:(xm != 0)=true:=by simpa using e
   have HE:Hid (Bp C n R I m=true):=by show _=_;rw [HB.out];simpa using e
   clear e;have hfd:∀ v:ο,(Instr.field 60 (χ #[ι κ xo,ι κ xm,τ xs]) 1).run μ v=.ok (ι κ xm) v:=λv=>Tryz.fieldVal _ _ _ v;go_enter Tryz.func36,Tryz.ntmps36
   go_wp2_with (go_at_call 37;refine HV.mono ?_;rintro e w1 ⟨rfl,hb1⟩)
   go_ret
   exact⟨by rw [HE.out];rfl,hb1⟩
def An(T:Nat->Td)(s:ByteArray):Nat->Option Nat
 | 0=>ν
 | k+1=>match An T s k with
  | some j=>ς j
  | none=>if ((T k).s.toList == s.toList)=true then ς k else ν
theorem MR{T:Nat->Td}{s:ByteArray}{k j:Nat}(h:An T s k=ς j):∀ n,k<=n->An T s n=ς j:=by
 intro n hn;induction n with
 | zero=>
  obtain rfl:k=0:=by omega
  exact h
 | succ n ih=>
  by_cases e:k=n+1
  · subst e;exact h
  · rw [An,ih (by omega)]
theorem A4{T:Nat->Td}{s:ByteArray}:∀ {n j:Nat},An T s n=ς j->j<n/\(T j).s=s
 | 0,j,h=>by cases h
 | n+1,j,h=>by
  rw [An] at h;split at h
  ·
   rename_i i hi
   cases h
   have:=A4 hi;exact⟨by omega,this.2⟩
  ·
   split at h
   ·
    rename_i he
    cases h
    exact⟨by omega,BD (eq_of_beq he)⟩
   · cases h
theorem Dp{T:Nat->Td}{s:ByteArray}:∀ {n:Nat},An T s n=ν->∀ j,j<n->(T j).s≠s
 | 0,_,j,hj=>by omega
 | n+1,h,j,hj=>by
  rw [An] at h;split at h
  · cases h
  ·
   rename_i hn
   split at h
   · cases h
   ·
    rename_i he
    by_cases e:j=n
    · subst e;intro hs;rw [hs] at he;simp at he
    · exact Dp hn j (by omega)
theorem Gz(a:Option Addr)(n c:Nat)(T:Nat->Td)(s:ByteArray)(w:ο)(h:TL w a n T)(hn:n<=1048576):VK μ 20 #[χ #[σ a n c],τ s] w λe w'=>e=ρ (ι κ (JR (An T s n)))/\υ w.heap.size w w':=by
 have hb0:=AD w (γ #[σ a n c] 28);go_enter Tryz.func20,Tryz.ntmps20
 go_wp2;go_loopw [5,6,10] (λ_ _ i wr=>∃ k:Nat,k<=n/\i=ι κ k/\An T s k=ν/\υ w.heap.size w wr) (λ_ _ i _=>n - (VQ i).toNat)
 case atStart=>exact⟨0,by omega,rfl,rfl,hb0⟩
 case round=>
  obtain⟨k,hk,rfl,hno,hb⟩:=hrel;have HNO:Hid (An T s k=ν):=hno;clear hno;by_cases hlt:k<n
  ·
   obtain⟨b,off,ac,cc,ar,cr,rfl,d0,d1,d2,-⟩:=h.later hb k hlt;have HN:Hid (An T s (k+1)=if ((T k).s.toList == s.toList)=true then ς k else ν):=by show _=_;rw [An,HNO.out]
   rcases he:((T k).s.toList == s.toList)
   ·
    go_wp2;go_roundw
    case rel=>exact⟨k+1,by omega,by go_num,by rw [HN.out,he];rfl,bj hb (VT _ _)⟩
    case measure=>simp [VQ];omega
   ·
    go_wp2;go_ret
    refine⟨?_,bj hb (VT _ _)⟩;rw [MR (k:=k+1) (j:=k) (by rw [HN.out,he];rfl) n (by omega)];rfl
  ·
   obtain rfl:k=n:=by omega
   go_wp2;go_ret
   exact⟨by rw [HNO.out];rfl,hb⟩
def BU(f:Nat->List VN)(n:Nat):List VN:=(List.range n).flatMap f
theorem OV(f:Nat->List VN):BU f 0=[]:=rfl
theorem Bs(f:Nat->List VN)(n:Nat):BU f (n+1)=BU f n ++ f n:=by
 unfold BU;rw [List.range_succ,List.flatMap_append];simp
theorem CD{f:Nat->List VN}{sz:Nat}:∀ {n:Nat},(∀ k,k<n->(f k).length=sz)->(BU f n).length=n * sz
 | 0,_=>by simp [BU]
 | n+1,h=>by
  rw [Bs,VJ,CD (n:=n) (λk hk=>h k (by omega)),h n (by omega),Nat.add_mul,Nat.one_mul]
theorem Dy{f f':Nat->List VN}:∀ {n:Nat},(∀ k,k<n->f k=f' k)->BU f n=BU f' n
 | 0,_=>rfl
 | n+1,h=>by rw [Bs,Bs,Dy (n:=n) (λk hk=>h k (by omega)),h n (by omega)]
theorem EP{f:Nat->List VN}{sz:Nat}:∀ {n:Nat},(∀ k,k<n->(f k).length=sz)->∀ {i j:Nat},i<n->j<sz->(BU f n)[i * sz+j]?=(f i)[j]?
 | 0,_,i,j,hi,_=>by omega
 | n+1,h,i,j,hi,hj=>by
  have hl:=CD (n:=n) (λk hk=>h k (by omega));rw [Bs];by_cases e:i<n
  ·
   have hb:i * sz+j<n * sz:=by
    have:(i+1) * sz<=n * sz:=Nat.mul_le_mul_right sz e;rw [Nat.add_mul,Nat.one_mul] at this;omega
   rw [List.getElem?_append_left (by omega)];exact EP (n:=n) (λk hk=>h k (by omega)) e hj
  ·
   obtain rfl:i=n:=by omega
   rw [List.getElem?_append_right (by omega),hl];congr 1
   omega
theorem JJ{f:Nat->List VN}{sz:Nat}(hsz:0<sz):∀ {n:Nat},(∀ k,k<n->(f k).length=sz)->∀ {P:Nat->VN->Prop},(∀ i,i<n->∀ j u,(f i)[j]?=ς u->P (i * sz+j) u)->∀ q u,(BU f n)[q]?=ς u->P q u:=by
 intro n h P hP q u hu;obtain⟨hq,-⟩:=List.getElem?_eq_some_iff.1 hu;rw [CD h] at hq;have hi:q / sz<n:=Nat.div_lt_of_lt_mul (by rw [Nat.mul_comm];exact hq);have hj:q % sz<sz:=Nat.mod_lt _ hsz;have e:q / sz * sz+q % sz=q:=by rw [Nat.mul_comm];exact Nat.div_add_mod q sz
 rw [←e] at hu ⊢;rw [EP h hi hj] at hu;exact hP _ hi _ _ hu
theorem Cx{f:Nat->List VN}{n:Nat}(h:∀ k,k<n->∀ u∈f k,u.oneCell'=true):∀ u∈BU f n,u.oneCell'=true:=by
 intro u hu;simp only [BU,List.mem_flatMap,List.mem_range] at hu
 obtain⟨k,hk,hu⟩:=hu;exact h k hk u hu
def Liv(X:Nat->Prop)(w:ο)(P:ο->Prop):Prop:=∀ w',(∀ a v,X a.block->w.cell? a=ς v->w'.cell? a=ς v)->P w'
theorem Liv.now{X:Nat->Prop}{w:ο}{P:ο->Prop}(h:Liv X w P):P w:=h w λ_ _ _ h=>h
theorem Liv.step{X:Nat->Prop}{w w':ο}{P:ο->Prop}(h:Liv X w P)(k:∀ a v,X a.block->w.cell? a=ς v->w'.cell? a=ς v):Liv X w' P:=λw2 h2=>h w2 λa v hx hc=>h2 a v hx (k a v hx hc)
theorem Liv.wide{X Y:Nat->Prop}{w:ο}{P:ο->Prop}(h:Liv X w P)(k:∀ b,X b->b<w.heap.size->Y b):Liv Y w P:=λw2 h2=>h w2 λa v hx hc=>h2 a v (k _ hx (World.block_lt_of_cell? w _ hc)) hc
theorem Liv.later{X:Nat->Prop}{w w':ο}{P:ο->Prop}(h:Liv X w P)(hb:υ w.heap.size w w'):Liv X w' P:=h.step λ_ _ _ hc=>AB hb hc
theorem Liv.imp{X:Nat->Prop}{w:ο}{P Q:ο->Prop}(h:Liv X w P)(k:∀ w,P w->Q w):Liv X w Q:=λw2 h2=>k _ (h w2 h2)
theorem Liv.and{X:Nat->Prop}{w:ο}{P Q:ο->Prop}(h:Liv X w P)(k:Liv X w Q):Liv X w (λw=>P w/\Q w):=λw2 h2=>⟨h w2 h2,k w2 h2⟩
theorem Liv.grown{X:Nat->Prop}{w w':ο}{P:ο->Prop}{r:Option Nat}(h:Liv X w P)(hg:w.grownBy w' r)(hX:∀ b,X b->ς b≠r):Liv X w' P:=h.step λ_ _ hx hc=>
 (World.cell?_of_block (hg.block _ (World.block_lt_of_cell? w _ hc) (hX _ hx))).trans hc
theorem Liv.set{X:Nat->Prop}{w:ο}{P:ο->Prop}{B i:Nat}{v:VN}(h:Liv X w P)(hX:¬X B):Liv X (w.setCell ⟨B,i,ν⟩ v) P:=h.step λa u hx hc=>by
 rw [World.cell?_setCell_far _ _ _ _ (show B≠a.block from λe=>hX (by rw [e];exact hx))]
 exact hc
theorem IL.liv{w:ο}{a:Option Addr}{n:Nat}{I:Nat->Itm}(h:IL w a n I){X:Nat->Prop}(hX:∀ b off,a=ς ⟨b,off,ν⟩->X b):Liv X w (λw=>IL w a n I):=λw' k j hj=>by
 obtain⟨b,off,e,c0,c1,c2,hs⟩:=h j hj;exact⟨b,off,e,k _ _ (hX b off e) c0,k _ _ (hX b off e) c1,k _ _ (hX b off e) c2,hs⟩
theorem CL.liv{w:ο}{a:Option Addr}{n:Nat}{C:Nat->Clm}(h:CL w a n C){X:Nat->Prop}(hX:∀ b off,a=ς ⟨b,off,ν⟩->X b):Liv X w (λw=>CL w a n C):=λw' k j hj=>by
 obtain⟨b,off,e,c0,c1,hs⟩:=h j hj;exact⟨b,off,e,k _ _ (hX b off e) c0,k _ _ (hX b off e) c1,hs⟩
theorem IL.lb{w:ο}{a:Option Addr}{n:Nat}{I:Nat->Itm}(h:IL w a n I):Liv (λb=>b<w.heap.size) w (λw=>IL w a n I):=λw' k j hj=>by
 obtain⟨b,off,e,c0,c1,c2,hs⟩:=h j hj;have hl:=World.block_lt_of_cell? w _ c0;exact⟨b,off,e,k _ _ hl c0,k _ _ hl c1,k _ _ hl c2,hs⟩
theorem CL.lb{w:ο}{a:Option Addr}{n:Nat}{C:Nat->Clm}(h:CL w a n C):Liv (λb=>b<w.heap.size) w (λw=>CL w a n C):=λw' k j hj=>by
 obtain⟨b,off,e,c0,c1,hs⟩:=h j hj;have hl:=World.block_lt_of_cell? w _ c0;exact⟨b,off,e,k _ _ hl c0,k _ _ hl c1,hs⟩
theorem OL.lb{w:ο}{a:Option Addr}{n:Nat}{m:Nat->Nat}{O:Nat->Nat->Itm}(h:OL w a n m O):Liv (λb=>b<w.heap.size) w (λw=>OL w a n m O):=λw' k j hj=>by
 obtain⟨b,off,i,c,e,c0,hI,hs⟩:=h j hj;exact⟨b,off,i,c,e,k _ _ (World.block_lt_of_cell? w _ c0) c0,hI.lb w' k,hs⟩
structure GO{α:Type}(T sz G:Nat)(D:Nat->Prop)(E:List VN->α->ο->Prop)(w:ο)(v:VN)(n:Nat)(x:Nat->α)(f:Nat->List VN):Prop where
 own:w.ownsRow G T sz v n (BU f n)
 len:∀ i,i<n->(f i).length=sz
 liv:∀ i,i<n->Liv (λb=>D b/\ς b≠v.ownBlock) w (E (f i) (x i))
theorem GO.later{α:Type}{T sz G:Nat}{D:Nat->Prop}{E:List VN->α->ο->Prop}{w w':ο}{v:VN}{n:Nat}{x:Nat->α}{f:Nat->List VN}(h:GO T sz G D E w v n x f)(hb:υ w.heap.size w w'):GO T sz G D E w' v n x f:=
 ⟨AF h.own hb,h.len,λi hi=>(h.liv i hi).later hb⟩
theorem GO.nil{α:Type}{T sz G:Nat}{D:Nat->Prop}{E:List VN->α->ο->Prop}{w:ο}{v:VN}{x:Nat->α}(h:w.ownsRow G T sz v 0 []):GO T sz G D E w v 0 x (λ_=>[]):=
 ⟨h,λi hi=>by omega,λi hi=>by omega⟩
theorem GO.congr{α:Type}{T sz G:Nat}{D:Nat->Prop}{E:List VN->α->ο->Prop}{w:ο}{v:VN}{n:Nat}{x x':Nat->α}{f:Nat->List VN}(h:GO T sz G D E w v n x f)(hx:∀ i,i<n->x' i=x i):GO T sz G D E w v n x' f:=
 ⟨h.own,h.len,λi hi=>by rw [hx i hi];exact h.liv i hi⟩
theorem GO.push{α:Type}{T sz G:Nat}{D:Nat->Prop}{E:List VN->α->ο->Prop}{w w':ο}{v:VN}{n g' cap':Nat}{x:Nat->α}{f:Nat->List VN}{c:List VN}(h:GO T sz G D E w v n x f)(hc:c.length=sz)(hl:Liv (λb=>D b/\ς b≠v.ownBlock) w (E c (x n)))
 (hO:w'.ownsRow G T sz (σ (ς ⟨g',0,ν⟩) (n+1) cap') (n+1) (BU f n ++ c)) (hgr:w.grownBy w' v.ownBlock) (hat:v.ownBlock=ς g'∨g'=w.heap.size) :
 GO T sz G D E w' (σ (ς ⟨g',0,ν⟩) (n+1) cap') (n+1) x (λi=>if i<n then f i else c):=by
 have key:∀ {P:ο->Prop},Liv (λb=>D b/\ς b≠v.ownBlock) w P->Liv (λb=>D b/\ς b≠(σ (ς ⟨g',0,ν⟩) (n+1) cap').ownBlock) w' P:=λhp=>by
  have h1:=hp.wide (Y:=λb=>D b/\ς b≠v.ownBlock/\b<w.heap.size) (λb hb hs=>⟨hb.1,hb.2,hs⟩);have h2:=h1.grown hgr (λb hb=>hb.2.1);refine h2.wide (λb hb _=>⟨hb.1,?_⟩);show ς b≠ς g'
  rcases hat with e | e
  · rw [←e];exact hb.2.1
  · intro e2;have e3:b=g':=VF e2;have:=hb.2.2;omega
 refine⟨?_,λi hi=>?_,λi hi=>?_⟩
 ·
  rw [Bs,Dy (f:=λi=>if i<n then f i else c) (f':=f) (λk hk=>by simp [hk])]
  rw [if_neg (by omega)];exact hO
 ·
  show (if i<n then f i else c).length=sz
  split
  · rename_i h1;exact h.len i h1
  · exact hc
 ·
  show Liv _ _ (E (if i<n then f i else c) (x i))
  split
  · rename_i h1;exact key (h.liv i h1)
  ·
   obtain rfl:i=n:=by omega
   exact key hl
theorem GO.cell{α:Type}{T sz G:Nat}{D:Nat->Prop}{E:List VN->α->ο->Prop}{w:ο}{g cap n:Nat}{x:Nat->α}{f:Nat->List VN}(h:GO T sz G D E w (σ (ς ⟨g,0,ν⟩) n cap) n x f){i j:Nat}(hi:i<n)(hj:j<sz):w.cell? ⟨g,i * sz+j,ν⟩=(f i)[j]?:=by
 have hb:i * sz+j<n * sz:=by
  have:(i+1) * sz<=n * sz:=Nat.mul_le_mul_right sz hi;rw [Nat.add_mul,Nat.one_mul] at this;omega
 exact(h.own.cellAt _ hb).trans (EP h.len hi hj)
abbrev Rw:=Nat×(Nat->Itm)
def ER(c:List VN)(x:Rw)(w:ο):Prop:=∃ a k,c=[σ a x.1 k]/\IL w a x.1 x.2/\x.1<=1048576
def ET(c:List VN)(d:Td)(w:ο):Prop:=∃ ac cc ar cr,c=[τ d.s,σ ac d.n cc,σ ar d.r cr]/\CL w ac d.n d.C/\OL w ar d.r d.m d.R/\Sm3 d
abbrev RO(G:Nat)(D:Nat->Prop)(w:ο)(v:VN)(n:Nat)(x:Nat->Rw)(f:Nat->List VN):Prop:=GO 30 1 G D ER w v n x f
abbrev TO(G:Nat)(D:Nat->Prop)(w:ο)(v:VN)(n:Nat)(x:Nat->Td)(f:Nat->List VN):Prop:=GO 67 3 G D ET w v n x f
theorem CX{w:ο}{base e size n:Nat}{v:VN}{xs:List VN}(h:w.ownsRow base e size v n xs):(v=σ ν 0 0/\n=0)∨∃ g cap,v=σ (ς ⟨g,0,ν⟩) n cap:=by
 rcases h.2 with ⟨e1,e2⟩ | ⟨g,cap,cur,e1,-⟩
 · exact VV ⟨e1,e2⟩
 · exact Vb ⟨g,cap,e1⟩
theorem RO.ol{G:Nat}{D:Nat->Prop}{w:ο}{v:VN}{n:Nat}{x:Nat->Rw}{f:Nat->List VN}(h:RO G D w v n x f):∃ a c,v=σ a n c/\OL w a n (λi=>(x i).1) (λi=>(x i).2):=by
 rcases CX h.own with ⟨rfl,rfl⟩ | ⟨g,cap,rfl⟩
 · exact⟨ν,0,rfl,λk hk=>by omega⟩
 · refine⟨ς ⟨g,0,ν⟩,cap,rfl,λk hk=>?_⟩;obtain⟨a,c,e,hI,hs⟩:=(h.liv k hk).now;have:=h.cell (j:=0) hk (by omega);rw [e] at this;refine⟨g,0,a,c,rfl,?_,hI,hs⟩;rw [VM];simpa using this
theorem RO.olv{G:Nat}{D:Nat->Prop}{w:ο}{g cap n:Nat}{x:Nat->Rw}{f:Nat->List VN}(h:RO G D w (σ (ς ⟨g,0,ν⟩) n cap) n x f)(hG:∀ b,G<=b->D b):Liv D w (λw=>OL w (ς ⟨g,0,ν⟩) n (λi=>(x i).1) (λi=>(x i).2)):=λw' k i hi=>by
 have hl:=(h.own.lt g rfl).1;obtain⟨a,c,e,hI,hs⟩:=(h.liv i hi) w' (λp u hp hc=>k p u hp.1 hc);have:=h.cell (j:=0) hi (by omega);rw [e] at this;refine⟨g,0,a,c,rfl,k _ _ (hG _ hl) ?_,hI,hs⟩;rw [VM];simpa using this
theorem TO.tl{G:Nat}{D:Nat->Prop}{w:ο}{v:VN}{n:Nat}{x:Nat->Td}{f:Nat->List VN}(h:TO G D w v n x f):∃ a c,v=σ a n c/\TL w a n x:=by
 rcases CX h.own with ⟨rfl,rfl⟩ | ⟨g,cap,rfl⟩
 · exact⟨ν,0,rfl,λk hk=>by omega⟩
 ·
  refine⟨ς ⟨g,0,ν⟩,cap,rfl,λk hk=>?_⟩;obtain⟨ac,cc,ar,cr,e,hC,hR,hs⟩:=(h.liv k hk).now;have h0:=h.cell (j:=0) hk (by omega);have h1:=h.cell (j:=1) hk (by omega);have h2:=h.cell (j:=2) hk (by omega);rw [e] at h0 h1 h2;refine⟨g,0,ac,cc,ar,cr,rfl,?_,?_,?_,hC,hR,hs⟩
  · rw [VM];simpa using h0
  · rw [VM];simpa using h1
  · rw [VM];simpa using h2
theorem Hs(b off n:Nat):(⟨b,off+n,ν⟩:Addr)=(⟨b,off,ν⟩:Addr).add n:=by
 unfold Addr.add;split
 · rename_i h;subst h;rfl
 · rfl
def c2(x:Clm):List VN:=[τ x.s,ι κ x.t]
theorem IL.news{w:ο}{ad:Addr}{n:Nat}{I:Nat->Itm}(h:IL w (ς ad) n I):∀ q u,(BU (λk=>v3 (I k)) n)[q]?=ς u->w.cell? (ad.add q)=ς u:=by
 refine JJ (sz:=3) (by omega) (λk _=>rfl) (P:=λq u=>w.cell? (ad.add q)=ς u) (λi hi j u hu=>?_);obtain⟨b,off,e,c0,c1,c2,-⟩:=h i hi;obtain rfl:ad=⟨b,off,ν⟩:=VF e;match j,hu with
 | 0,hu=>
  obtain rfl:ι κ (I i).o=u:=VF hu;rw [Vf,←Hs];exact c0
 | 1,hu=>
  obtain rfl:ι κ (I i).m=u:=VF hu;exact c1
 | 2,hu=>
  obtain rfl:τ (I i).s=u:=VF hu;exact c2
theorem CL.news{w:ο}{ad:Addr}{n:Nat}{C:Nat->Clm}(h:CL w (ς ad) n C):∀ q u,(BU (λk=>c2 (C k)) n)[q]?=ς u->w.cell? (ad.add q)=ς u:=by
 refine JJ (sz:=2) (by omega) (λk _=>rfl) (P:=λq u=>w.cell? (ad.add q)=ς u) (λi hi j u hu=>?_);obtain⟨b,off,e,c0,c1,-⟩:=h i hi;obtain rfl:ad=⟨b,off,ν⟩:=VF e;match j,hu with
 | 0,hu=>
  obtain rfl:τ (C i).s=u:=VF hu;rw [Vf,←Hs];exact c0
 | 1,hu=>
  obtain rfl:ι κ (C i).t=u:=VF hu;exact c1
theorem EK{w:ο}{G g cap n:Nat}{I:Nat->Itm}(h:w.ownsRow G 60 3 (σ (ς ⟨g,0,ν⟩) n cap) n (BU (λk=>v3 (I k)) n))(hs:∀ k,k<n->(I k).s.size<=1048576):IL w (ς ⟨g,0,ν⟩) n I:=λk hk=>by
 have key:∀ j,j<3->w.cell? ⟨g,k * 3+j,ν⟩=(v3 (I k))[j]?:=λj hj=>(h.cellAt _ (by omega)).trans (EP (sz:=3) (λ_ _=>rfl) hk hj);refine⟨g,0,rfl,?_,?_,?_,hs k hk⟩
 · rw [VM];exact key 0 (by omega)
 · rw [VM];exact key 1 (by omega)
 · rw [VM];exact key 2 (by omega)
theorem I0{w:ο}{G g cap n:Nat}{C:Nat->Clm}(h:w.ownsRow G 58 2 (σ (ς ⟨g,0,ν⟩) n cap) n (BU (λk=>c2 (C k)) n))(hs:∀ k,k<n->(C k).s.size<=1048576):CL w (ς ⟨g,0,ν⟩) n C:=λk hk=>by
 have key:∀ j,j<2->w.cell? ⟨g,k * 2+j,ν⟩=(c2 (C k))[j]?:=λj hj=>(h.cellAt _ (by omega)).trans (EP (sz:=2) (λ_ _=>rfl) hk hj);refine⟨g,0,rfl,?_,?_,hs k hk⟩
 · rw [VM];exact key 0 (by omega)
 · rw [VM];exact key 1 (by omega)
theorem Nr(I:Nat->Itm)(n:Nat):∀ u∈BU (λk=>v3 (I k)) n,u.oneCell'=true:=Cx λk _ u hu=>by
 simp only [v3,List.mem_cons,List.not_mem_nil,or_false] at hu
 rcases hu with rfl | rfl | rfl <;> rfl
theorem UU(C:Nat->Clm)(n:Nat):∀ u∈BU (λk=>c2 (C k)) n,u.oneCell'=true:=Cx λk _ u hu=>by
 simp only [c2,List.mem_cons,List.not_mem_nil,or_false] at hu
 rcases hu with rfl | rfl <;> rfl
theorem Pf(I:Nat->Itm)(n:Nat):(BU (λk=>v3 (I k)) n).length=n * 3:=CD λ_ _=>rfl
theorem UY(C:Nat->Clm)(n:Nat):(BU (λk=>c2 (C k)) n).length=n * 2:=CD λ_ _=>rfl
set_option maxHeartbeats 16000000
theorem BW{W:ο}{R:Nat}{x:VN}{t:TypeId}(h:W.heap[R]?=ς (γ #[x] t (0,0)))(v:VN):(W.setCell ⟨R,0,ν⟩ v).heap[R]?=ς (γ #[v] t (0,0)):=π _ _ 0 _ _ v h
theorem AG{W:ο}{R:Nat}{x:VN}{t:TypeId}(h:W.heap[R]?=ς (γ #[x] t (0,0))):W.cell? ⟨R,0,ν⟩=ς x/\W.frozen? ⟨R,0,ν⟩=false:=⟨ε _ _ 0 _ _ _ h,ζ _ _ 0 _ _ h⟩
def MM(n:Nat)(T:Nat->Td):Prop:=∀ k,k<n->0<(T k).n/\∀ i,i<(T k).r->0<(T k).m i
theorem CC{w:ο}{base e size n B i:Nat}{v u:VN}{xs:List VN}(h:w.ownsRow base e size v n xs)(hB:B<base):(w.setCell ⟨B,i,ν⟩ u).ownsRow base e size v n xs:=by
 obtain⟨hl,hh⟩:=h;refine⟨hl,?_⟩;rcases hh with hh | ⟨g,cap,cur,e1,e2,e3,e4⟩
 · exact VV hh
 · exact Vb ⟨g,cap,cur,e1,e2,Af e3 (by omega),e4⟩
theorem GO.set{α:Type}{T sz G B i:Nat}{D:Nat->Prop}{E:List VN->α->ο->Prop}{w:ο}{v u:VN}{n:Nat}{x:Nat->α}{f:Nat->List VN}(h:GO T sz G D E w v n x f)(hG:B<G)(hD:¬D B):GO T sz G D E (w.setCell ⟨B,i,ν⟩ u) v n x f:=
 ⟨CC h.own hG,h.len,λi hi=>(h.liv i hi).set (λhx=>hD hx.1)⟩
theorem Bl{w w':ο}{q:Nat}{o:Obj}{r:Option Nat}(h:w.heap[q]?=ς o)(hg:w.grownBy w' r)(hne:ς q≠r):w'.heap[q]?=ς o:=(hg.block q (VL.1 h).1 hne).trans h
theorem JI{W a b:ο}{r:Option Nat}(h:υ W.heap.size W a)(g:a.grownBy b r)(hB:∀ x,x<W.heap.size->ς x≠r):υ W.heap.size W b:=
 ⟨g.os.trans h.os,g.tape.trans h.tape,g.output.trans h.output,VX h.size g.size,λk hk=>(g.block k (Nat.lt_of_lt_of_le hk h.size) (hB k hk)).trans (h.block k hk)⟩
theorem FZ{w:ο}{base e size g n cap:Nat}{xs:List VN}(h:w.ownsRow base e size (σ (ς ⟨g,0,ν⟩) n cap) n xs):n<=cap:=by
 rcases h.2 with ⟨hh,_⟩ | ⟨gg,cap',cur,e1,e2,e3,e4,-⟩
 · simp at hh
 ·
  simp only [Value.slice.injEq,Option.some.injEq,Addr.mk.injEq,and_true,true_and] at e1
  obtain⟨rfl,rfl⟩:=e1;exact e4
def TN(w:ο)(g n:Nat)(T:Nat->Td):Prop:=
 ∀ k,k<n->∃ g1 cc g2 cr,w.cell? ⟨g,k * 3,ν⟩=ς (τ (T k).s)/\w.cell? ⟨g,k * 3+1,ν⟩=ς (σ (ς ⟨g1,0,ν⟩) (T k).n cc)/\w.cell? ⟨g,k * 3+2,ν⟩=ς (σ (ς ⟨g2,0,ν⟩) (T k).r cr)/\((T k).n<=cc/\(T k).r<=cr)/\CL w (ς ⟨g1,0,ν⟩) (T k).n (T k).C/\OL w (ς ⟨g2,0,ν⟩) (T k).r (T k).m (T k).R/\Sm3 (T k)
theorem TN.later{w w':ο}{g n:Nat}{T:Nat->Td}(h:TN w g n T)(hb:υ w.heap.size w w'):TN w' g n T:=λk hk=>by
 obtain⟨g1,cc,g2,cr,h0,h1,h2,hc,hC,hR,hs⟩:=h k hk;exact⟨g1,cc,g2,cr,AB hb h0,AB hb h1,AB hb h2,hc,hC.later hb,hR.later hb,hs⟩
theorem TN.tl{w:ο}{g n:Nat}{T:Nat->Td}(h:TN w g n T):TL w (ς ⟨g,0,ν⟩) n T:=λk hk=>by
 obtain⟨g1,cc,g2,cr,h0,h1,h2,hc,hC,hR,hs⟩:=h k hk;exact⟨g,0,_,_,_,_,rfl,by rw [VM];exact h0,by rw [VM];exact h1,by rw [VM];exact h2,hC,hR,hs⟩
def TS(w:ο)(a:Option Addr)(n:Nat)(T:Nat->Td):Prop:=n=0∨∃ g,a=ς ⟨g,0,ν⟩/\TN w g n T
theorem TS.tl{w:ο}{a:Option Addr}{n:Nat}{T:Nat->Td}(h:TS w a n T):TL w a n T:=by
 rcases h with rfl | ⟨g,rfl,h⟩
 · exact λk hk=>absurd hk (Vc k)
 · exact h.tl
def ES(c:List VN)(d:Td)(w:ο):Prop:=∃ g1 cc g2 cr,c=[τ d.s,σ (ς ⟨g1,0,ν⟩) d.n cc,σ (ς ⟨g2,0,ν⟩) d.r cr]/\(d.n<=cc/\d.r<=cr)/\CL w (ς ⟨g1,0,ν⟩) d.n d.C/\OL w (ς ⟨g2,0,ν⟩) d.r d.m d.R/\Sm3 d
abbrev SO(G:Nat)(D:Nat->Prop)(w:ο)(v:VN)(n:Nat)(x:Nat->Td)(f:Nat->List VN):Prop:=GO 67 3 G D ES w v n x f
theorem SO.tsv{G:Nat}{D:Nat->Prop}{w:ο}{a:Option Addr}{n c:Nat}{x:Nat->Td}{f:Nat->List VN}(h:SO G D w (σ a n c) n x f)(hG:∀ b,G<=b->D b):Liv D w (λw=>TS w a n x):=λw' k=>by
 rcases CX h.own with ⟨-,rfl⟩ | ⟨g,cap,e⟩
 · exact .inl rfl
 obtain⟨rfl,-,rfl⟩:a=ς ⟨g,0,ν⟩/\n=n/\c=cap:=by simpa using e
 refine .inr ⟨g,rfl,λi hi=>?_⟩;have hl:=(h.own.lt g rfl).1;obtain⟨g1,cc,g2,cr,e,hc,hC,hR,hs⟩:=(h.liv i hi) w' (λp u hp hc=>k p u hp.1 hc);have h0:=h.cell (j:=0) hi (by omega);have h1:=h.cell (j:=1) hi (by omega);have h2:=h.cell (j:=2) hi (by omega);rw [e] at h0 h1 h2;exact⟨g1,cc,g2,cr,k _ _ (hG _ hl) (by simpa using h0),k _ _ (hG _ hl) (by simpa using h1),k _ _ (hG _ hl) (by simpa using h2),hc,hC,hR,hs⟩
theorem Cd(a:Option Addr)(n c:Nat)(T:Nat->Td)(w:ο)(h:TL w a n T)(hn:n<=1048576)(hF:MM n T) :
 VK μ 21 #[χ #[σ a n c]] w λe w'=>∃ a' c',e=ρ (χ #[σ a' n c'])/\Liv (λb=>w.heap.size<=b) w' (λv=>TS v a' n T)/\υ w.heap.size w w':=by
 obtain⟨j2,hi2,hz20,hz21,hz22⟩:=info_parts Tryz.infoCol;have HI2:Hid (Tryz.prog.info? 58=ς j2):=hi2;obtain⟨j3,hi3,hz30,hz31,hz32⟩:=info_parts Tryz.infoVal;have HI3:Hid (Tryz.prog.info? 60=ς j3):=hi3;obtain⟨jr,hir,hzr0,hzr1,hzr2⟩:=info_parts Tryz.infoRow;have HIr:Hid (Tryz.prog.info? 30=ς jr):=hir;obtain⟨jt,hit,hzt0,hzt1,hzt2⟩:=info_parts Tryz.infoTab;have HIt:Hid (Tryz.prog.info? 67=ς jt):=hit;clear hi2 hi3 hir hit;have HF:Hid (MM n T):=hF;clear hF;have hbU:υ w.heap.size w (((w.alloc (γ #[σ a n c] 28)).alloc (γ #[σ ν 0 0] 28)).alloc (γ #[σ ν 0 0] 28)):=Ay _ _ _ _;have hsU:(((w.alloc (γ #[σ a n c] 28)).alloc (γ #[σ ν 0 0] 28)).alloc (γ #[σ ν 0 0] 28)).heap.size=w.heap.size+3:=by rw [ω,ω,ω]
 have hq2:(((w.alloc (γ #[σ a n c] 28)).alloc (γ #[σ ν 0 0] 28)).alloc (γ #[σ ν 0 0] 28)).heap[w.heap.size+1]?=ς (γ #[σ ν 0 0] 28 (0,0)):=by
  have q:=η (w.alloc (γ #[σ a n c] 28)) (γ #[σ ν 0 0] 28);rw [ω] at q;exact AC q (AD _ _)
 have hq3:(((w.alloc (γ #[σ a n c] 28)).alloc (γ #[σ ν 0 0] 28)).alloc (γ #[σ ν 0 0] 28)).heap[w.heap.size+1+1]?=ς (γ #[σ ν 0 0] 28 (0,0)):=by
  have q:=η ((w.alloc (γ #[σ a n c] 28)).alloc (γ #[σ ν 0 0] 28)) (γ #[σ ν 0 0] 28);rw [ω,ω] at q;exact q
 go_enter Tryz.func21,Tryz.ntmps21
 go_wp2;go_loopw [5,6,8,13] (λ_ _ _ i wr=>∃ (k:Nat) (v:VN) (f:Nat->List VN),k<=n/\i=ι κ k/\SO (w.heap.size+3) (λb=>w.heap.size+3<=b) wr v k T f/\wr.heap[w.heap.size+1]?=ς (γ #[σ ν 0 0] 28 (0,0))/\wr.heap[w.heap.size+1+1]?=ς (γ #[v] 28 (0,0))/\υ w.heap.size w wr/\w.heap.size+3<=wr.heap.size) (λ_ _ _ i _=>n - (VQ i).toNat)
 case atStart=>exact⟨0,σ ν 0 0,λ_=>[],by omega,rfl,GO.nil (World.ownsRow_nil _ _ _ _),hq2,hq3,hbU,by rw [hsU];exact VD _⟩
 case round=>
  obtain⟨k,v,f,hk,rfl,hTO,hr2,hr3,hb,hsz⟩:=hrel;obtain⟨x2,y2⟩:=AG hr2;obtain⟨x3,y3⟩:=AG hr3;by_cases hlt:k<n
  rotate_left
  ·
   obtain rfl:k=n:=by omega
   obtain⟨a',c',rfl⟩:∃ a' c',v=σ a' k c':=by rcases CX hTO.own with ⟨rfl,rfl⟩ | ⟨g,cap,rfl⟩ <;> exact⟨_,_,rfl⟩
   go_wp2;refine VE (v:=χ #[σ a' k c']) ?_ rfl ?_
   · exact VW Tryz.results21 _ _ (w.heap.size+1) 28 _ (0,0) _ rfl (BW hr2 _) Tryz.underlying28 rfl (by kernel_rfl)
   · exact⟨a',c',rfl,(SO.tsv (hTO.set (B:=w.heap.size+1) (i:=0) (u:=σ a' k c') (by omega) (by omega)) (λ_ h=>h)).wide (λb hb _=>by omega),Bg hb (by omega)⟩
  obtain⟨wo,hwo⟩:∃ v,v=wr:=⟨_,rfl⟩;subst hwo;have hp:=HF.out k hlt;obtain⟨b,off,ac,cc,ar,cr,rfl,e0,e1,e2,hC,hR,hS3⟩:=h.later hb k hlt;obtain⟨s,nc,C,r,m,R,hTk⟩:∃ s nc C r m R,T k=⟨s,nc,C,r,m,R⟩:=⟨_,_,_,_,_,_,rfl⟩;rw [hTk] at e0 e1 e2 hC hR hS3 hp;simp only at e0 e1 e2 hC hR hp
  have HTK:Hid (T k=⟨s,nc,C,r,m,R⟩):=hTk;clear hTk;obtain⟨hp1,hp2⟩:=hp;have HP2:Hid (∀ i,i<r->0<m i):=hp2;clear hp2;obtain⟨b1,off1,rfl,-⟩:=hC 0 hp1;have hnc:=hS3.co.1;have hrr:=hS3.ro.1;simp only at hnc hrr
  have HsA:Hid ((wo.alloc (γ #[τ s,σ (ς ⟨b1,off1,ν⟩) nc cc,σ ar r cr] 67)).heap.size=wo.heap.size+1):=ω _ _;have HRA:Hid (((wo.alloc (γ #[τ s,σ (ς ⟨b1,off1,ν⟩) nc cc,σ ar r cr] 67)).alloc (γ #[] 58)).heap[wo.heap.size]?=ς (γ #[τ s,σ (ς ⟨b1,off1,ν⟩) nc cc,σ ar r cr] 67 (0,0))):=AC (η wo _) (AD _ _);have HOE:Hid (((wo.alloc (γ #[τ s,σ (ς ⟨b1,off1,ν⟩) nc cc,σ ar r cr] 67)).alloc (γ #[] 58)).ownsRow (wo.heap.size+1) 58 2 (σ (ς ⟨wo.heap.size+1,0,ν⟩) 0 0) 0 []):=by
   have q:=VU (base:=wo.heap.size+1) (e:=58) (size:=2) (wo.alloc (γ #[τ s,σ (ς ⟨b1,off1,ν⟩) nc cc,σ ar r cr] 67)) #[] 0 (by rw [HsA.out];omega) (by unfold maxLen;omega) rfl;rw [HsA.out] at q;exact q
  go_wp2_with (first | (at_builtin;refine wpList_append_own _ rfl _ _ 29 rfl (wo.heap.size+1) 58 j2 (χ #[τ VG,ι κ 0]) 2 24 Tryz.underlying29 HI2.out hz20 hz21 hz22 rfl (by omega) (σ (ς ⟨wo.heap.size+1,0,ν⟩) 0 0) 0 [] rfl HOE.out ⟨b1,off1,ν⟩ nc cc (BU (λk=>c2 (C k)) nc) rfl (UY _ _) (CL.news (hC.later (AA (AD _ _) (AD _ _)))) (UU _ _) (by unfold maxLen;omega) (by omega) (by simp <;> omega) ?_;intro v1 w5 hO5 hgr5 hnil5;obtain⟨g5,cap5,rfl⟩:=Ab hO5 (λe=>by have:=hnil5.1 e;simp at this);rw [VM,Vd] at hO5;replace hgr5:World.grownBy _ w5 (ς (wo.heap.size+1)):=hgr5;have hr5:=A9 HRA.out hgr5 (by omega);have hg5:=(hO5.lt g5 rfl);have hb5:υ wo.heap.size wo w5:=gB (AA (AD _ _) (AD _ _)) hgr5 (by omega);obtain⟨p0,p1,p2,pf0,pf1,pf2⟩:=AL hr5;have HRZ:Hid ((w5.setCell ⟨wo.heap.size,1,ν⟩ (σ (ς ⟨g5,0,ν⟩) nc cap5)).heap[wo.heap.size]?=ς (γ #[τ s,σ (ς ⟨g5,0,ν⟩) nc cap5,σ ar r cr] 67 (0,0))):=π _ _ 1 _ _ _ hr5;have p9:=AB (AD (w5.setCell ⟨wo.heap.size,1,ν⟩ (σ (ς ⟨g5,0,ν⟩) nc cap5)) (γ #[] 30)) (AL HRZ.out).2.2.1;clear hnil5))
  have hbZ:υ wo.heap.size wo (w5.setCell ⟨wo.heap.size,1,ν⟩ (σ (ς ⟨g5,0,ν⟩) nc cap5)):=Bg hb5 (VD _);have HCZ:Hid (CL (w5.setCell ⟨wo.heap.size,1,ν⟩ (σ (ς ⟨g5,0,ν⟩) nc cap5)) (ς ⟨g5,0,ν⟩) nc C):=I0 (CC hO5 (by omega)) hS3.co.2;have hzs:(w5.setCell ⟨wo.heap.size,1,ν⟩ (σ (ς ⟨g5,0,ν⟩) nc cap5)).heap.size=w5.heap.size:=Ve _ _ _;clear p9;generalize (w5.setCell ⟨wo.heap.size,1,ν⟩ (σ (ς ⟨g5,0,ν⟩) nc cap5))=z at hbZ HRZ HCZ hzs ⊢;have hc5:nc<=cap5:=FZ hO5;clear p0 p1 p2 pf0 pf1 pf2 hr5 hb5;have hsz5:=hbZ.size;have hO6:(z.alloc (γ #[] 30)).ownsRow z.heap.size 30 1 (σ (ς ⟨z.heap.size,0,ν⟩) 0 0) 0 []:=VU z #[] 0 (VD _) (by unfold maxLen;omega) rfl;go_loopw [6,8,26] (λv6 _ i wr=>∃ (q g cap:Nat) (f6:Nat->List VN),q<=r/\i=ι κ q/\v6=σ (ς ⟨g,0,ν⟩) q cap/\RO z.heap.size (λb=>z.heap.size<=b) wr (σ (ς ⟨g,0,ν⟩) q cap) q (λi=>(m i,R i)) f6/\υ z.heap.size z wr) (λ_ _ i _=>r - (VQ i).toNat)
  case atStart=>exact⟨0,z.heap.size,0,λ_=>[],by omega,rfl,by rw [hzs],GO.nil hO6,AD _ _⟩
  case round=>
   obtain⟨q,g,cap,f6,hq,rfl,rfl,hRO,hbx⟩:=hrel;have hbxr:=AA hbZ hbx;have hgl:=hRO.own.lt g rfl;by_cases hql:q<r
   ·
    obtain⟨bR,offR,ai,ci,rfl,d0,hI,hmI⟩:=hR.later hbxr q hql;obtain⟨b7,off7,rfl,-⟩:=hI 0 (HP2.out q hql);have HOE7:Hid ((wr.alloc (γ #[] 60)).ownsRow wr.heap.size 60 3 (σ (ς ⟨wr.heap.size,0,ν⟩) 0 0) 0 []):=VU wr #[] 0 (VD _) (by unfold maxLen;omega) rfl;have hqr:(q:Int)<r:=by omega
    go_wp2_with (first | (at_builtin;have _h:=hb7;refine VR _ rfl _ _ _ rfl z.heap.size 30 jr (σ ν 0 0) 1 24 Tryz.underlying43 HIr.out hzr0 hzr1 hzr2 rfl (by omega) (σ (ς ⟨g,0,ν⟩) q cap) q (BU f6 q) rfl (hRO7.later (AD _ _)).own ⟨w7.heap.size,0,ν⟩ 1 1 [(σ (ς ⟨g7,0,ν⟩) (m q) cap7)] rfl rfl (VI (η w7 _)) (Bt _ rfl) (by omega) (by unfold maxLen;omega) (by omega) (by have:=hb7.size;have:=hbx.size;simp;omega) _ rfl ?_;intro g8 cap8 w8 hO8 hgr8 hat8 hlt8) | (at_builtin;refine wpList_append_own _ rfl _ _ 30 rfl wr.heap.size 60 j3 (χ #[ι κ 0,ι κ 0,τ VG]) 3 32 Tryz.underlying30 HI3.out hz30 hz31 hz32 rfl (by omega) (σ (ς ⟨wr.heap.size,0,ν⟩) 0 0) 0 [] rfl HOE7.out ⟨b7,off7,ν⟩ (m q) ci (BU (λk=>v3 (R q k)) (m q)) rfl (Pf _ _) (IL.news (hI.later (AD _ _))) (Nr _ _) (by unfold maxLen;omega) (by omega) (by simp) ?_;intro v1 w7 hO7 hgr7 hnil7;obtain⟨g7,cap7,rfl⟩:=Ab hO7 (λe=>by have:=hnil7.1 e;simp at this);rw [VM,Vd] at hO7;replace hgr7:World.grownBy _ w7 (ς wr.heap.size):=hgr7;have hb7:υ wr.heap.size wr w7:=gB (AD _ _) hgr7 (VD _);have hRO7:=hRO.later hb7;have hg7:=(hO7.lt g7 rfl).1;clear hnil7))
    have hIL:=EK hO7 (hS3.ro.2 q hql).2;have hL7:Liv (λb=>z.heap.size<=b/\ς b≠(σ (ς ⟨g,0,ν⟩) q cap).ownBlock) w7 (ER [(σ (ς ⟨g7,0,ν⟩) (m q) cap7)] (m q,R q)):=(hIL.liv (λb off e=>by
     obtain⟨rfl,-⟩:g7=b/\0=off:=by simpa using e
     refine⟨by have:=hbx.size;omega,?_⟩;show ς g7≠ς g
     intro e2;have e3:g7=g:=VF e2;omega)).imp (λ_ h=>⟨_,_,rfl,h,hmI⟩)
    have hP:=GO.push (x:=λi=>(m i,R i)) (hRO7.later (AD _ _)) (c:=[(σ (ς ⟨g7,0,ν⟩) (m q) cap7)]) rfl (hL7.later (AD _ _)) hO8 hgr8 hat8;have hb8:=gB (AA (AA hbx hb7) (AD _ _)) (r:=g) hgr8 hgl.1;go_roundw
    case rel=>exact⟨q+1,g8,cap8,_,by omega,by go_num,rfl,hP,hb8⟩
    case measure=>simp [VQ];omega
   ·
    obtain rfl:q=r:=by omega
    have hRx:=AC HRZ.out hbx;obtain⟨p0,p1,p2,pf0,pf1,pf2⟩:=AL hRx;have hRY:(wr.setCell ⟨wo.heap.size,2,ν⟩ (σ (ς ⟨g,0,ν⟩) q cap)).heap[wo.heap.size]?=ς (γ #[τ s,σ (ς ⟨g5,0,ν⟩) nc cap5,σ (ς ⟨g,0,ν⟩) q cap] 67 (0,0)):=π _ _ 2 _ _ _ hRx;obtain⟨y0,y1,y2,-⟩:=AL hRY;have hbY:υ wo.heap.size wo (wr.setCell ⟨wo.heap.size,2,ν⟩ (σ (ς ⟨g,0,ν⟩) q cap)):=Bg hbxr (VD _);have hr3Y:=AC hr3 hbY;have hr2Y:=AC hr2 hbY;obtain⟨z3,-⟩:=AG hr3Y;have hTOY:=hTO.later hbY;have hsY:(wr.setCell ⟨wo.heap.size,2,ν⟩ (σ (ς ⟨g,0,ν⟩) q cap)).heap.size=wr.heap.size:=Ve _ _ _;have HNW:Hid (∀ j u,([τ s,σ (ς ⟨g5,0,ν⟩) nc cap5,σ (ς ⟨g,0,ν⟩) q cap]:List VN)[j]?=ς u->((wr.setCell ⟨wo.heap.size,2,ν⟩ (σ (ς ⟨g,0,ν⟩) q cap)).alloc (γ #[τ s,σ (ς ⟨g5,0,ν⟩) nc cap5,σ (ς ⟨g,0,ν⟩) q cap] 67)).cell? ((⟨wr.heap.size,0,ν⟩:Addr).add j)=ς u):=by
     have:=VI (η (wr.setCell ⟨wo.heap.size,2,ν⟩ (σ (ς ⟨g,0,ν⟩) q cap)) (γ #[τ s,σ (ς ⟨g5,0,ν⟩) nc cap5,σ (ς ⟨g,0,ν⟩) q cap] 67));rw [hsY] at this;exact this
    have HVB:Hid (∀ b,wo.heap.size<=b∨b<w.heap.size+3->ς b≠v.ownBlock):=by
     intro b hbb;rcases CX hTO.own with ⟨rfl,-⟩ | ⟨g0,cap0,rfl⟩
     · intro e;cases e
     · have:=hTO.own.lt g0 rfl;intro e;have e3:b=g0:=VF e;omega
    go_wp2_with (first | (at_builtin;refine VR _ rfl _ _ _ rfl (w.heap.size+3) 67 jt (χ #[τ VG,σ ν 0 0,σ ν 0 0]) 3 64 Tryz.underlying26 HIt.out hzt0 hzt1 hzt2 rfl (by omega) v k (BU f k) rfl (hTOY.later (AD _ _)).own ⟨wr.heap.size,0,ν⟩ 1 1 [τ s,σ (ς ⟨g5,0,ν⟩) nc cap5,σ (ς ⟨g,0,ν⟩) q cap] rfl rfl HNW.out (by intro u hu;simp only [List.mem_cons,List.not_mem_nil,or_false] at hu;rcases hu with rfl | rfl | rfl <;> rfl) (by omega) (by unfold maxLen;omega) (by omega) (by have:=hbxr.size;simp;omega) _ rfl ?_;intro g9 cap9 w9 hO9 hgr9 hat9 hlt9;have hr9:=Bl (AC hr3Y (AD _ _)) hgr9 (HVB.out _ (by omega));obtain⟨m9,n9⟩:=AG hr9))
    have hsx:=hbxr.size;have hCY:=(((HCZ.out.later hbx).liv (X:=λb=>wo.heap.size<b) (λb off e=>by
     obtain⟨rfl,-⟩:g5=b/\0=off:=by simpa using e
     omega)).set (B:=wo.heap.size) (i:=2) (v:=σ (ς ⟨g,0,ν⟩) q cap) (by omega)).wide (Y:=λb=>w.heap.size+3<=b/\ς b≠v.ownBlock) (λb hx _=>⟨by omega,HVB.out b (by omega)⟩)
    have hOY:=((RO.olv hRO (λ_ h=>h)).set (B:=wo.heap.size) (i:=2) (v:=σ (ς ⟨g,0,ν⟩) q cap) (by omega)).wide (Y:=λb=>w.heap.size+3<=b/\ς b≠v.ownBlock) (λb hx _=>⟨by omega,HVB.out b (by omega)⟩);have hLT:Liv (λb=>w.heap.size+3<=b/\ς b≠v.ownBlock) (wr.setCell ⟨wo.heap.size,2,ν⟩ (σ (ς ⟨g,0,ν⟩) q cap)) (ES [τ s,σ (ς ⟨g5,0,ν⟩) nc cap5,σ (ς ⟨g,0,ν⟩) q cap] (T k)):=(hCY.and hOY).imp (λ_ h=>by rw [HTK.out];exact⟨_,_,_,_,rfl,⟨hc5,FZ hRO.own⟩,h.1,h.2,hS3⟩);have hP:=GO.push (hTOY.later (AD _ _)) (c:=[τ s,σ (ς ⟨g5,0,ν⟩) nc cap5,σ (ς ⟨g,0,ν⟩) q cap]) rfl (hLT.later (AD _ _)) hO9 hgr9 (by rw [ω] at hat9 ⊢;exact hat9);go_roundw
    case rel=>exact⟨k+1,_,_,by omega,by go_num,hP.set (by omega) (by omega),Af (Bl (AC hr2Y (AD _ _)) hgr9 (HVB.out _ (by omega))) (by omega),BW hr9 _,Bg (JI (AA hb (AA hbY (AD _ _))) hgr9 (λx hx=>HVB.out x (by omega))) (by omega),by rw [Ve];exact VX hsz (VX (AA hbY (AD _ _)).size hgr9.size)⟩
    case measure=>simp [VQ];omega
def t0:Td:=⟨⟨#[]⟩,0,λ_=>⟨⟨#[]⟩,0⟩,0,λ_=>0,λ_ _=>d0⟩
def K6(a b:ByteArray):Bool:=Va a.toList b.toList || a.toList == b.toList
def Eb{α:Type}(b:Bool)(x:α):List α:=if b=true then [x] else []
theorem Fa{α:Type}{b:Bool}{x y:α}(h:y∈Eb b x):y=x:=by
 unfold Eb at h;split at h
 · simpa using h
 · cases h
theorem DE{α:Type}(b:Bool)(x:α):(Eb b x).length=if b=true then 1 else 0:=by
 cases b <;> rfl
def FR(T:Nat->Td)(d:Td):Nat->List Td×Bool
 | 0=>([],false)
 | k+1=>(((FR T d k).1 ++ Eb (!(FR T d k).2 && K6 d.s (T k).s) d) ++ Eb (!((T k).s.toList == d.s.toList)) (T k),(FR T d k).2 || K6 d.s (T k).s)
def DB(T:Nat->Td)(d:Td)(n:Nat):List Td:=(FR T d n).1 ++ Eb (!(FR T d n).2) d
theorem LT{T:Nat->Td}{d:Td}{P:Td->Prop}(hd:P d):∀ {k:Nat},(∀ j,j<k->P (T j))->∀ x∈(FR T d k).1,P x
 | 0,_,x,hx=>by cases hx
 | k+1,h,x,hx=>by
  simp only [FR,List.mem_append] at hx
  rcases hx with (hx | hx) | hx
  · exact LT hd (λj hj=>h j (by omega)) x hx
  · rw [Fa hx];exact hd
  · rw [Fa hx];exact h k (by omega)
theorem PE{T:Nat->Td}{d:Td}{P:Td->Prop}(hd:P d){k:Nat}(h:∀ j,j<k->P (T j)):∀ x∈DB T d k,P x:=λx hx=>by
 simp only [DB,List.mem_append] at hx
 rcases hx with hx | hx
 · exact LT hd h x hx
 · rw [Fa hx];exact hd
theorem Ih{T:Nat->Td}{d:Td}:∀ {k:Nat},(FR T d k).1.length<=k+(Eb (FR T d k).2 d).length
 | 0=>by simp [FR]
 | k+1=>by
  have ih:=Ih (T:=T) (d:=d) (k:=k);simp only [FR,VJ,DE] at ih ⊢
  generalize FR T d k=q at ih ⊢;obtain⟨A,p⟩:=q;generalize K6 d.s (T k).s=b at ih ⊢;simp only at ih ⊢
  have hx:(if (!((T k).s.toList == d.s.toList))=true then 1 else 0)<=1:=by split <;> omega
  cases p <;> cases b <;> simp at ih hx⊢<;> omega
theorem O5{α:Type}(A:List α)(x y:α){i:Nat}(h:i<A.length):(A ++ [x]).getD i y=A.getD i y:=by
 simp [List.getElem?_append_left h]
theorem O3{α:Type}(A:List α)(x y:α):(A ++ [x]).getD A.length y=x:=by simp
theorem GO.snoc{α:Type}{T sz G:Nat}{D:Nat->Prop}{E:List VN->α->ο->Prop}{w w':ο}{v:VN}{A:List α}{x y:α}{g' cap':Nat}{f:Nat->List VN}{c:List VN}(h:GO T sz G D E w v A.length (λi=>A.getD i y) f)(hc:c.length=sz)(hl:Liv (λb=>D b/\ς b≠v.ownBlock) w (E c x))
 (hO:w'.ownsRow G T sz (σ (ς ⟨g',0,ν⟩) (A.length+1) cap') (A.length+1) (BU f A.length ++ c)) (hgr:w.grownBy w' v.ownBlock) (hat:v.ownBlock=ς g'∨g'=w.heap.size) :
 GO T sz G D E w' (σ (ς ⟨g',0,ν⟩) (A ++ [x]).length cap') (A ++ [x]).length (λi=>(A ++ [x]).getD i y) (λi=>if i<A.length then f i else c):=by
 have h2:GO T sz G D E w v A.length (λi=>(A ++ [x]).getD i y) f:=h.congr (λi hi=>O5 A x y hi);have h3:=GO.push h2 hc (by rw [O3];exact hl) hO hgr hat;rw [show (A ++ [x]).length=A.length+1 from by simp]
 exact h3
structure WS(w:ο)(X:Array VN)(W:ο)(A:List Td)(v:VN)(f:Nat->List VN):Prop where
 tt:TO (w.heap.size+4) (λb=>b<w.heap.size) W v A.length (λi=>A.getD i t0) f
 r1:W.heap[w.heap.size+1]?=ς (γ X 67 (0,0))
 r2:W.heap[w.heap.size+1+1]?=ς (γ #[σ ν 0 0] 28 (0,0))
 r3:W.heap[w.heap.size+1+1+1]?=ς (γ #[v] 28 (0,0))
 be:υ w.heap.size w W
 sz:w.heap.size+4<=W.heap.size
theorem WS.later{w W W':ο}{X:Array VN}{A:List Td}{v:VN}{f:Nat->List VN}(h:WS w X W A v f)(hb:υ W.heap.size W W'):WS w X W' A v f:=
 ⟨h.tt.later hb,AC h.r1 hb,AC h.r2 hb,AC h.r3 hb,AA h.be hb,VX h.sz hb.size⟩
theorem WS.vb{w W:ο}{X:Array VN}{A:List Td}{v:VN}{f:Nat->List VN}(h:WS w X W A v f):∀ b,b<w.heap.size+4∨W.heap.size<=b->ς b≠v.ownBlock:=by
 intro b hbb;rcases CX h.tt.own with ⟨rfl,-⟩ | ⟨g0,cap0,rfl⟩
 · intro e;cases e
 · have:=h.tt.own.lt g0 rfl;intro e;have e3:b=g0:=VF e;omega
theorem WS.push{w W w6:ο}{X:Array VN}{A:List Td}{v:VN}{f:Nat->List VN}{C:Obj}{c:List VN}{x:Td}{g6 cap6:Nat}(h:WS w X W A v f)(hl:Liv (λb=>b<w.heap.size) W (ET c x))(hc:c.length=3)
 (hO:w6.ownsRow (w.heap.size+4) 67 3 (σ (ς ⟨g6,0,ν⟩) (A.length+1) cap6) (A.length+1) (BU f A.length ++ c)) (hgr:(W.alloc C).grownBy w6 v.ownBlock) (hat:v.ownBlock=ς g6∨g6=(W.alloc C).heap.size) :
 WS w X (w6.setCell ⟨w.heap.size+1+1+1,0,ν⟩ (σ (ς ⟨g6,0,ν⟩) (A.length+1) cap6)) (A ++ [x]) (σ (ς ⟨g6,0,ν⟩) (A.length+1) cap6) (λi=>if i<A.length then f i else c):=by
 have h2:=h.later (AD W C);have hl2:=(hl.wide (Y:=λb=>b<w.heap.size/\ς b≠v.ownBlock) (λb hx _=>⟨hx,h.vb _ (by omega)⟩)).later (AD W C);have hp:=GO.snoc (x:=x) h2.tt hc hl2 hO hgr hat;have e:(A ++ [x]).length=A.length+1:=by simp
 have hp2:TO (w.heap.size+4) (λb=>b<w.heap.size) w6 (σ (ς ⟨g6,0,ν⟩) (A.length+1) cap6) (A ++ [x]).length (λi=>(A ++ [x]).getD i t0) (λi=>if i<A.length then f i else c):=by rw [e] at hp ⊢;exact hp
 refine⟨hp2.set (by omega) (by omega),Af (Bl h2.r1 hgr (h.vb _ (by omega))) (by omega),Af (Bl h2.r2 hgr (h.vb _ (by omega))) (by omega),BW (Bl h2.r3 hgr (h.vb _ (by omega))) _,Bg (JI h2.be hgr (λx hx=>h.vb _ (by omega))) (by omega),?_⟩;rw [Ve];exact VX h2.sz hgr.size
theorem Kk{w W w6:ο}{v u:VN}{C:Obj}{q:Nat}{o:Obj}(hq:W.heap[q]?=ς o)(hgr:(W.alloc C).grownBy w6 v.ownBlock)(hv:ς q≠v.ownBlock)(h3:q≠w.heap.size+1+1+1):(w6.setCell ⟨w.heap.size+1+1+1,0,ν⟩ u).heap[q]?=ς o:=
 Af (Bl (AC hq (AD _ _)) hgr hv) h3
theorem GL{x y z:VN}(h:x.oneCell'=true)(h2:y.oneCell'=true)(h3:z.oneCell'=true):∀ u∈[x,y,z],u.oneCell'=true:=by
 intro u hu;simp only [List.mem_cons,List.not_mem_nil,or_false] at hu
 rcases hu with rfl | rfl | rfl
 · exact h
 · exact h2
 · exact h3
theorem GN{W:ο}{q:Nat}{x y z:VN}{t:TypeId}(hq:W.heap.size=q):∀ j u,[x,y,z][j]?=ς u->(W.alloc (γ #[x,y,z] t)).cell? ((⟨q,0,ν⟩:Addr).add j)=ς u:=by
 subst hq;exact VI (η W _)
theorem FW(a:Option Addr)(n c:Nat)(T:Nat->Td)(ds:ByteArray)(dn:Nat)(dC:Nat->Clm)(dr:Nat)(dm:Nat->Nat)(dR:Nat->Nat->Itm)(ac:Option Addr)(cc:Nat)(ar:Option Addr)(cr:Nat)(d:Td)(hd:(⟨ds,dn,dC,dr,dm,dR⟩:Td)=d)(w:ο)(h:TL w a n T)(hC:CL w ac dn dC)(hR:OL w ar dr dm dR)(hS:Sm3 d)(hn:n<=1000000)(hF:MM n T)(hdF:0<d.n/\∀ i,i<d.r->0<d.m i) :
 VK μ 52 #[χ #[σ a n c],χ #[τ ds,σ ac dn cc,σ ar dr cr]] w λe w'=>∃ a' c',e=ρ (χ #[σ a' (DB T d n).length c'])/\Liv (λb=>w.heap.size<=b) w' (λv=>TS v a' (DB T d n).length (λi=>(DB T d n).getD i t0))/\υ w.heap.size w w':=by
 have HD:Hid (d=⟨ds,dn,dC,dr,dm,dR⟩):=hd.symm;have HS:Hid (Sm3 d):=hS;have HdC:=hC.lb;have HdR:=hR.lb;have HFL:Hid (MM (DB T d n).length (λi=>(DB T d n).getD i t0)):=by
  intro k hk;have e:(DB T d n).getD k t0=(DB T d n)[k]:=by simp [hk]
  show 0<((DB T d n).getD k t0).n/\∀ i,i<((DB T d n).getD k t0).r->0<((DB T d n).getD k t0).m i
  rw [e];exact PE (P:=λx=>0<x.n/\∀ i,i<x.r->0<x.m i) hdF hF _ (List.getElem_mem hk)
 have hds:d.s=ds:=by rw [←hd]
 have HDS:Hid (d.s=ds):=hds;have hwl:(DB T d n).length<=1000002:=by
  have:=Ih (T:=T) (d:=d) (k:=n);simp only [DB,VJ,DE] at this ⊢
  split at this <;> split <;> omega
 have HWLN:Hid ((DB T d n).length<=1000002):=hwl;clear hd hC hR hS hF hdF hds hwl;obtain⟨jt,hit,hzt0,hzt1,hzt2⟩:=info_parts Tryz.infoTab;have HIt:Hid (Tryz.prog.info? 67=ς jt):=hit;clear hit;have hbU:υ w.heap.size w ((((w.alloc (γ #[σ a n c] 28)).alloc (γ #[τ ds,σ ac dn cc,σ ar dr cr] 67)).alloc (γ #[σ ν 0 0] 28)).alloc (γ #[σ ν 0 0] 28)):=AA (Ay _ _ _ _) (AD _ _);have hsU:((((w.alloc (γ #[σ a n c] 28)).alloc (γ #[τ ds,σ ac dn cc,σ ar dr cr] 67)).alloc (γ #[σ ν 0 0] 28)).alloc (γ #[σ ν 0 0] 28)).heap.size=w.heap.size+4:=by rw [ω,ω,ω,ω]
 have hq1:((((w.alloc (γ #[σ a n c] 28)).alloc (γ #[τ ds,σ ac dn cc,σ ar dr cr] 67)).alloc (γ #[σ ν 0 0] 28)).alloc (γ #[σ ν 0 0] 28)).heap[w.heap.size+1]?=ς (γ #[τ ds,σ ac dn cc,σ ar dr cr] 67 (0,0)):=by
  have q:=η (w.alloc (γ #[σ a n c] 28)) (γ #[τ ds,σ ac dn cc,σ ar dr cr] 67);rw [ω] at q;exact AC (AC q (AD _ _)) (AD _ _)
 have hq2:((((w.alloc (γ #[σ a n c] 28)).alloc (γ #[τ ds,σ ac dn cc,σ ar dr cr] 67)).alloc (γ #[σ ν 0 0] 28)).alloc (γ #[σ ν 0 0] 28)).heap[w.heap.size+1+1]?=ς (γ #[σ ν 0 0] 28 (0,0)):=by
  have q:=η ((w.alloc (γ #[σ a n c] 28)).alloc (γ #[τ ds,σ ac dn cc,σ ar dr cr] 67)) (γ #[σ ν 0 0] 28);rw [ω,ω] at q;exact AC q (AD _ _)
 have hq3:((((w.alloc (γ #[σ a n c] 28)).alloc (γ #[τ ds,σ ac dn cc,σ ar dr cr] 67)).alloc (γ #[σ ν 0 0] 28)).alloc (γ #[σ ν 0 0] 28)).heap[w.heap.size+1+1+1]?=ς (γ #[σ ν 0 0] 28 (0,0)):=by
  have q:=η (((w.alloc (γ #[σ a n c] 28)).alloc (γ #[τ ds,σ ac dn cc,σ ar dr cr] 67)).alloc (γ #[σ ν 0 0] 28)) (γ #[σ ν 0 0] 28);rw [ω,ω,ω] at q;exact q
 have hWS0:WS w #[τ ds,σ ac dn cc,σ ar dr cr] ((((w.alloc (γ #[σ a n c] 28)).alloc (γ #[τ ds,σ ac dn cc,σ ar dr cr] 67)).alloc (γ #[σ ν 0 0] 28)).alloc (γ #[σ ν 0 0] 28)) [] (σ ν 0 0) (λ_=>[]):=⟨GO.nil (World.ownsRow_nil _ _ _ _),hq1,hq2,hq3,hbU,by rw [hsU];exact VD _⟩;clear hq1 hq2 hq3 hbU hsU;go_enter Tryz.func52,Tryz.ntmps52
 go_wp2;go_loopw [6,8,13] (λpb _ i wr=>∃ (k:Nat) (A:List Td) (p:Bool) (v:VN) (f:Nat->List VN),k<=n/\i=ι κ k/\pb=β p/\FR T d k=(A,p)/\WS w #[τ ds,σ ac dn cc,σ ar dr cr] wr A v f) (λ_ _ i _=>n - (VQ i).toNat)
 case atStart=>exact⟨0,[],false,σ ν 0 0,λ_=>[],by omega,rfl,rfl,rfl,hWS0⟩
 case round=>
  obtain⟨k,A,p,v,f,hk,rfl,rfl,hwt,hWS⟩:=hrel;have HWT:Hid (FR T d k=(A,p)):=hwt;have hAl:A.length<=k+1:=by
   have:=Ih (T:=T) (d:=d) (k:=k);rw [hwt] at this;simp only [DE] at this
   split at this <;> omega
  clear hwt;have hb:=hWS.be;have hsz:=hWS.sz;have HLD:Hid (∀ W,υ w.heap.size w W->Liv (λb=>b<w.heap.size) W (ET [τ ds,σ ac dn cc,σ ar dr cr] d)):=λW hW=>((HdC.and HdR).later hW).imp (λ_ h=>by rw [HD.out];have:=HS.out;rw [HD.out] at this;exact⟨_,_,_,_,rfl,h.1,h.2,this⟩);by_cases hlt:k<n
  rotate_left
  ·
   obtain rfl:k=n:=by omega
   have HWL:Hid (DB T d k=A ++ Eb (!p) d):=by show _=_;unfold DB;rw [HWT.out]
   obtain⟨x0,x1,x2,-⟩:=AL hWS.r1;obtain⟨y0,yf0⟩:=AG hWS.r2;obtain⟨z0,zf0⟩:=AG hWS.r3;cases p
   ·
    go_wp2_with (first | (go_at_call 21;have _h:=hW6;refine(Cd (ς ⟨g6,0,ν⟩) (A.length+1) cap6 (λi=>(DB T d k).getD i t0) _ hTL (by omega) (by rw [←HLN.out];exact HFL.out)).mono ?_;rintro e w8 ⟨a8,c8,rfl,hTL8,hb8⟩;have hr8:=AC hW6.r2 hb8;obtain⟨m8,n8⟩:=AG hr8) | (at_builtin;refine VR _ rfl _ _ _ rfl (w.heap.size+4) 67 jt (χ #[τ VG,σ ν 0 0,σ ν 0 0]) 3 64 Tryz.underlying26 HIt.out hzt0 hzt1 hzt2 rfl (by omega) (v) A.length (BU f A.length) rfl (hWS.later (AD _ _)).tt.own ⟨wr.heap.size,0,ν⟩ 1 1 [τ ds,σ ac dn cc,σ ar dr cr] rfl rfl (GN (by first | rfl | simp)) (GL rfl rfl rfl) (by omega) (by unfold maxLen;omega) (by omega) (hWS.later (AD _ _)).sz _ rfl ?_;intro g6 cap6 w6 hO6 hgr6 hat6 hlt6;have hm6:=Bl (AC hWS.r3 (AD _ _)) hgr6 (hWS.vb _ (by omega));obtain⟨mm6,nn6⟩:=AG hm6;have hW6:=hWS.push (x:=d) (HLD.out _ hWS.be) rfl hO6 hgr6 hat6;obtain⟨l0,lf0⟩:=AG hW6.r3;obtain⟨a1,c1,hv,hTL⟩:=TO.tl hW6.tt;obtain⟨rfl,rfl⟩:ς ⟨g6,0,ν⟩=a1/\cap6=c1:=(by simpa using hv);have hwe:A ++ [d]=DB T d k:=(by rw [HWL.out];simp [Eb]);rw [show (A ++ [d]).length=A.length+1 from (by simp),hwe] at hTL;have HLN:Hid ((DB T d k).length=A.length+1):=(by show _=_;rw [←hwe];simp);clear hwe hv))
    rw [HLN.out];refine VE (v:=χ #[σ a8 (A.length+1) c8]) ?_ rfl ?_
    · exact VW Tryz.results52 _ _ (w.heap.size+1+1) 28 _ (0,0) _ rfl (BW hr8 _) Tryz.underlying28 rfl (by kernel_rfl)
    · exact⟨a8,c8,rfl,(hTL8.wide (Y:=λb=>w.heap.size+4<=b) (λb hb _=>VX hW6.sz hb)).set (by omega) |>.wide (λb hb _=>by omega),Bg (AA hW6.be hb8) (by omega)⟩
   ·
    obtain⟨a1,c1,hv,hTL⟩:=TO.tl hWS.tt;rw [show A=DB T d k from by rw [HWL.out];simp [Eb]] at hTL hv
    subst hv;go_wp2_with (first | (go_at_call 21;refine(Cd a1 (DB T d k).length c1 (λi=>(DB T d k).getD i t0) _ hTL (by have:=HWLN.out;omega) HFL.out).mono ?_;rintro e w8 ⟨a8,c8,rfl,hTL8,hb8⟩;have hr8:=AC hWS.r2 hb8;obtain⟨m8,n8⟩:=AG hr8))
    refine VE (v:=χ #[σ a8 (DB T d k).length c8]) ?_ rfl ?_
    · exact VW Tryz.results52 _ _ (w.heap.size+1+1) 28 _ (0,0) _ rfl (BW hr8 _) Tryz.underlying28 rfl (by kernel_rfl)
    · exact⟨a8,c8,rfl,(hTL8.wide (Y:=λb=>w.heap.size+4<=b) (λb hb _=>VX hWS.sz hb)).set (by omega) |>.wide (λb hb _=>by omega),Bg (AA hWS.be hb8) (by omega)⟩
  obtain⟨b,off,kc,kcc,kr,kcr,rfl,e0,e1,e2,hkC,hkR,hkS⟩:=h k hlt;have hLK:=hkC.lb.and hkR.lb;obtain⟨ks,kn,kC,kR,km,kO,hTk⟩:∃ s nc C r m R,T k=⟨s,nc,C,r,m,R⟩:=⟨_,_,_,_,_,_,rfl⟩;have HTK:Hid (T k=⟨ks,kn,kC,kR,km,kO⟩):=hTk;have HLK:Hid (∀ W,υ w.heap.size w W->Liv (λb=>b<w.heap.size) W (ET [τ ks,σ kc kn kcc,σ kr kR kcr] (T k))):=λW hW=>(hLK.later hW).imp (λ_ h=>by rw [hTk] at h hkS ⊢;exact⟨_,_,_,_,rfl,h.1,h.2,hkS⟩);rw [hTk] at e0 e1 e2;simp only at e0 e1 e2
  have f0:=AB hb e0;have f1:=AB hb e1;have f2:=AB hb e2;clear e0 e1 e2 hTk hkC hkR hkS hLK;have hkn:(k:Int)<n:=by omega
  have hW5:=hWS.later (AD wr (γ #[τ ks,σ kc kn kcc,σ kr kR kcr] 67));have hrT:=η wr (γ #[τ ks,σ kc kn kcc,σ kr kR kcr] 67);have hs5:(wr.alloc (γ #[τ ks,σ kc kn kcc,σ kr kR kcr] 67)).heap.size=wr.heap.size+1:=ω _ _;obtain⟨x0,x1,x2,-⟩:=AL hW5.r1;obtain⟨z0,zf0⟩:=AG hW5.r3;cases p
  ·
   rcases hb1:Va ds.toList ks.toList
   ·
    rcases hb2:ds.toList == ks.toList
    ·
     rcases he:ks.toList == ds.toList
     ·
      skip
      go_wp2_with (first | (at_builtin;refine VR _ rfl _ _ _ rfl (w.heap.size+4) 67 jt (χ #[τ VG,σ ν 0 0,σ ν 0 0]) 3 64 Tryz.underlying26 HIt.out hzt0 hzt1 hzt2 rfl (by omega) (v) A.length (BU f A.length) rfl (hW5.later (AD _ _)).tt.own ⟨wr.heap.size+1,0,ν⟩ 1 1 [τ ks,σ kc kn kcc,σ kr kR kcr] rfl rfl (GN (by first | rfl | simp)) (GL rfl rfl rfl) (by omega) (by unfold maxLen;omega) (by omega) (hW5.later (AD _ _)).sz _ rfl ?_;intro g6 cap6 w6 hO6 hgr6 hat6 hlt6;have hm6:=Bl (AC hW5.r3 (AD _ _)) hgr6 (hW5.vb _ (by omega));obtain⟨mm6,nn6⟩:=AG hm6))
      have hW6:=hW5.push (x:=T k) (HLK.out _ hW5.be) rfl hO6 hgr6 hat6;go_roundw
      case rel=>exact⟨k+1,A ++ [T k],false,_,_,by omega,by go_num,rfl,by simp only [FR];rw [HWT.out,HTK.out,HDS.out];simp [Eb,K6,hb1,hb2,he],hW6⟩
      case measure=>simp [VQ];omega
     ·
      exfalso
      have:=eq_of_beq he;rw [this] at hb2;simp at hb2
    ·
     rcases he:ks.toList == ds.toList
     ·
      exfalso
      have:=eq_of_beq hb2;rw [this] at he;simp at he
     ·
      skip
      go_wp2_with (first | (at_builtin;refine VR _ rfl _ _ _ rfl (w.heap.size+4) 67 jt (χ #[τ VG,σ ν 0 0,σ ν 0 0]) 3 64 Tryz.underlying26 HIt.out hzt0 hzt1 hzt2 rfl (by omega) (v) A.length (BU f A.length) rfl (hW5.later (AD _ _)).tt.own ⟨wr.heap.size+1,0,ν⟩ 1 1 [τ ds,σ ac dn cc,σ ar dr cr] rfl rfl (GN (by first | rfl | simp)) (GL rfl rfl rfl) (by omega) (by unfold maxLen;omega) (by omega) (hW5.later (AD _ _)).sz _ rfl ?_;intro g6 cap6 w6 hO6 hgr6 hat6 hlt6;have hm6:=Bl (AC hW5.r3 (AD _ _)) hgr6 (hW5.vb _ (by omega));obtain⟨mm6,nn6⟩:=AG hm6;have hW6:=hW5.push (x:=d) (HLD.out _ hW5.be) rfl hO6 hgr6 hat6;have hT6:=Kk (w:=w) (u:=σ (ς ⟨g6,0,ν⟩) (A.length+1) cap6) hrT hgr6 (hWS.vb _ (by omega)) (by omega);obtain⟨t0,t1,t2,-⟩:=AL hT6;obtain⟨d0_,d1_,d2_,-⟩:=AL hW6.r1;obtain⟨l0,lf0⟩:=AG hW6.r3))
      go_roundw
      case rel=>exact⟨k+1,A ++ [d],true,_,_,by omega,by go_num,rfl,by simp only [FR];rw [HWT.out,HTK.out,HDS.out];simp [Eb,K6,hb1,hb2,he],hW6⟩
      case measure=>simp [VQ];omega
   ·
    rcases he:ks.toList == ds.toList
    ·
     skip
     go_wp2_with (first | (at_builtin;have _h:=hW6;refine VR _ rfl _ _ _ rfl (w.heap.size+4) 67 jt (χ #[τ VG,σ ν 0 0,σ ν 0 0]) 3 64 Tryz.underlying26 HIt.out hzt0 hzt1 hzt2 rfl (by omega) (σ (ς ⟨g6,0,ν⟩) (A.length+1) cap6) (A ++ [d]).length (BU (λi=>if i<A.length then f i else [τ ds,σ ac dn cc,σ ar dr cr]) (A ++ [d]).length) rfl (hW6.later (AD _ _)).tt.own ⟨w6.heap.size,0,ν⟩ 1 1 [τ ks,σ kc kn kcc,σ kr kR kcr] rfl rfl (GN (by first | rfl | simp)) (GL rfl rfl rfl) (by omega) (by unfold maxLen;simp;omega) (by simp;omega) (hW6.later (AD _ _)).sz _ rfl ?_;intro g7 cap7 w7 hO7 hgr7 hat7 hlt7;have hm7:=Bl (AC hW6.r3 (AD _ _)) hgr7 (hW6.vb _ (by omega));obtain⟨mm7,nn7⟩:=AG hm7) | (at_builtin;refine VR _ rfl _ _ _ rfl (w.heap.size+4) 67 jt (χ #[τ VG,σ ν 0 0,σ ν 0 0]) 3 64 Tryz.underlying26 HIt.out hzt0 hzt1 hzt2 rfl (by omega) (v) A.length (BU f A.length) rfl (hW5.later (AD _ _)).tt.own ⟨wr.heap.size+1,0,ν⟩ 1 1 [τ ds,σ ac dn cc,σ ar dr cr] rfl rfl (GN (by first | rfl | simp)) (GL rfl rfl rfl) (by omega) (by unfold maxLen;omega) (by omega) (hW5.later (AD _ _)).sz _ rfl ?_;intro g6 cap6 w6 hO6 hgr6 hat6 hlt6;have hm6:=Bl (AC hW5.r3 (AD _ _)) hgr6 (hW5.vb _ (by omega));obtain⟨mm6,nn6⟩:=AG hm6;have hW6:=hW5.push (x:=d) (HLD.out _ hW5.be) rfl hO6 hgr6 hat6;have hT6:=Kk (w:=w) (u:=σ (ς ⟨g6,0,ν⟩) (A.length+1) cap6) hrT hgr6 (hWS.vb _ (by omega)) (by omega);obtain⟨t0,t1,t2,-⟩:=AL hT6;obtain⟨d0_,d1_,d2_,-⟩:=AL hW6.r1;obtain⟨l0,lf0⟩:=AG hW6.r3))
     have hW7:=hW6.push (x:=T k) (HLK.out _ hW6.be) rfl hO7 hgr7 hat7;rw [show (A ++ [d]).length+1=A.length+1+1 from by simp] at hW7
     go_roundw
     case rel=>exact⟨k+1,A ++ [d] ++ [T k],true,_,_,by omega,by go_num,rfl,by simp only [FR];rw [HWT.out,HTK.out,HDS.out];simp [Eb,K6,hb1,he],hW7⟩
     case measure=>simp [VQ];omega
    ·
     skip
     go_wp2_with (first | (at_builtin;refine VR _ rfl _ _ _ rfl (w.heap.size+4) 67 jt (χ #[τ VG,σ ν 0 0,σ ν 0 0]) 3 64 Tryz.underlying26 HIt.out hzt0 hzt1 hzt2 rfl (by omega) (v) A.length (BU f A.length) rfl (hW5.later (AD _ _)).tt.own ⟨wr.heap.size+1,0,ν⟩ 1 1 [τ ds,σ ac dn cc,σ ar dr cr] rfl rfl (GN (by first | rfl | simp)) (GL rfl rfl rfl) (by omega) (by unfold maxLen;omega) (by omega) (hW5.later (AD _ _)).sz _ rfl ?_;intro g6 cap6 w6 hO6 hgr6 hat6 hlt6;have hm6:=Bl (AC hW5.r3 (AD _ _)) hgr6 (hW5.vb _ (by omega));obtain⟨mm6,nn6⟩:=AG hm6;have hW6:=hW5.push (x:=d) (HLD.out _ hW5.be) rfl hO6 hgr6 hat6;have hT6:=Kk (w:=w) (u:=σ (ς ⟨g6,0,ν⟩) (A.length+1) cap6) hrT hgr6 (hWS.vb _ (by omega)) (by omega);obtain⟨t0,t1,t2,-⟩:=AL hT6;obtain⟨d0_,d1_,d2_,-⟩:=AL hW6.r1;obtain⟨l0,lf0⟩:=AG hW6.r3))
     go_roundw
     case rel=>exact⟨k+1,A ++ [d],true,_,_,by omega,by go_num,rfl,by simp only [FR];rw [HWT.out,HTK.out,HDS.out];simp [Eb,K6,hb1,he],hW6⟩
     case measure=>simp [VQ];omega
  ·
   rcases he:ks.toList == ds.toList
   ·
    skip
    go_wp2_with (first | (at_builtin;refine VR _ rfl _ _ _ rfl (w.heap.size+4) 67 jt (χ #[τ VG,σ ν 0 0,σ ν 0 0]) 3 64 Tryz.underlying26 HIt.out hzt0 hzt1 hzt2 rfl (by omega) (v) A.length (BU f A.length) rfl (hW5.later (AD _ _)).tt.own ⟨wr.heap.size+1,0,ν⟩ 1 1 [τ ks,σ kc kn kcc,σ kr kR kcr] rfl rfl (GN (by first | rfl | simp)) (GL rfl rfl rfl) (by omega) (by unfold maxLen;omega) (by omega) (hW5.later (AD _ _)).sz _ rfl ?_;intro g6 cap6 w6 hO6 hgr6 hat6 hlt6;have hm6:=Bl (AC hW5.r3 (AD _ _)) hgr6 (hW5.vb _ (by omega));obtain⟨mm6,nn6⟩:=AG hm6))
    have hW6:=hW5.push (x:=T k) (HLK.out _ hW5.be) rfl hO6 hgr6 hat6;go_roundw
    case rel=>exact⟨k+1,A ++ [T k],true,_,_,by omega,by go_num,rfl,by simp only [FR];rw [HWT.out,HTK.out,HDS.out];simp [Eb,K6,he],hW6⟩
    case measure=>simp [VQ];omega
   ·
    skip
    go_wp2;go_roundw
    case rel=>exact⟨k+1,A,true,v,f,by omega,by go_num,rfl,by simp only [FR];rw [HWT.out,HTK.out,HDS.out];simp [Eb,K6,he],hW5⟩
    case measure=>simp [VQ];omega
def Ap(T:Nat->Td)(n:Nat):List Td:=(List.range n).map T
theorem AY(T:Nat->Td)(n:Nat):(Ap T n).length=n:=by simp [Ap]
theorem DC(T:Nat->Td){n i:Nat}(h:i<n):(Ap T n).getD i t0=T i:=by simp [Ap,h]
def LS(w:ο)(A:List Td)(cd:Int)(e:Ending)(w':ο):Prop:=∃ a' c',e=ρ (θ #[χ #[σ a' A.length c'],ι κ cd])/\Liv (λb=>w.heap.size<=b) w' (λv=>TS v a' A.length (λi=>A.getD i t0))/\υ w.heap.size w w'
theorem TL.congr{w:ο}{a:Option Addr}{n:Nat}{T T':Nat->Td}(h:TL w a n T)(e:∀ k,k<n->T' k=T k):TL w a n T':=λk hk=>by
 rw [e k hk];exact h k hk
theorem TS.congr{w:ο}{a:Option Addr}{n:Nat}{T T':Nat->Td}(h:TS w a n T)(e:∀ k,k<n->T' k=T k):TS w a n T':=by
 rcases h with h | ⟨g,h1,h2⟩
 · exact .inl h
 · refine .inr ⟨g,h1,λk hk=>?_⟩;rw [e k hk];exact h2 k hk
theorem TS.list{w:ο}{a:Option Addr}{n:Nat}{T:Nat->Td}(h:TS w a n T):TS w a (Ap T n).length (λi=>(Ap T n).getD i t0):=by
 rw [AY];exact h.congr (λk hk=>DC T hk)
theorem AE{P:Program}{fn:Func}{p t0:Tmp}{ty:TypeId}(h:fn.results=#[.cell p ty,.tmp t0])(tmps:Array VN)(w:ο)(g:Nat)(t:TypeId)(cs:Array VN)(fr:Nat×Nat)(d:TypeDesc)
 (hp:tmps.getD p undef=.pointer (ς ⟨g,0,ν⟩)) (hg:w.heap[g]?=ς (.cells cs t fr))
 (hu:P.underlying ty=ς d) (hd:(match d with | .struct _ | .array _ _=>true | _=>false)=true) (hi:(P.info? ty).map (·.size)=ς cs.size) :
 (results fn tmps).run P w=.ok (.tuple #[.agg cs,tmps.getD t0 undef]) w:=by
 have hp':tmps[p]?.getD undef=.pointer (ς ⟨g,0,ν⟩):=by simpa using hp
 simp [results,h,hp',asAddr,run_loadVar_row w g t ty cs fr d hg hu hd hi]
theorem BS{w W w2:ο}{a':Option Addr}{c' R n:Nat}{T:Nat->Td}{v:VN}(hW:υ w.heap.size w W)(hL:Liv (λb=>W.heap.size<=b) w2 (λv=>TS v a' n T))(hb:υ W.heap.size W w2)(hR:w.heap.size<=R)(hR2:R<W.heap.size)(cd:Int):LS w (Ap T n) cd (ρ (θ #[χ #[σ a' n c'],ι κ cd])) (w2.setCell ⟨R,0,ν⟩ v):=
 ⟨a',c',by rw [AY],((hL.set (B:=R) (by omega)).wide (λb hb' _=>by have:=hW.size;omega)).imp (λ_ h=>h.list),Bg (AA hW hb) hR⟩
theorem C2{w W w2:ο}{a':Option Addr}{c' R:Nat}{A:List Td}{v:VN}(hW:υ w.heap.size w W)(hL:Liv (λb=>W.heap.size<=b) w2 (λv=>TS v a' A.length (λi=>A.getD i t0)))(hb:υ W.heap.size W w2)(hR:w.heap.size<=R)(hR2:R<W.heap.size)(cd:Int):LS w A cd (ρ (θ #[χ #[σ a' A.length c'],ι κ cd])) (w2.setCell ⟨R,0,ν⟩ v):=
 ⟨a',c',rfl,(hL.set (B:=R) (by omega)).wide (λb hb' _=>by have:=hW.size;omega),Bg (AA hW hb) hR⟩
def FL(T:Nat->Td)(n:Nat)(tb:ByteArray)(n2:Nat)(C:Nat->Clm):List Td×Int:=
 if (An T tb n).isSome=true then (Ap T n,2) else if DW C n2=false then (Ap T n,3) else if n=100 then (Ap T n,6) else (DB T ⟨tb,n2,C,0,λ_=>0,λ_ _=>d0⟩ n,0)
theorem QA{C:Nat->Clm}{n j:Nat}(hj:j<n)(h:AR C (C j).s j=true):DW C n=false:=Am hj (by rw [h];rfl)
theorem AJ{W:ο}{R:Nat}{x0 x1 x2 x3 x4 x5 x6 x7:VN}{t:TypeId}(h:W.heap[R]?=ς (γ #[x0,x1,x2,x3,x4,x5,x6,x7] t (0,0))):W.cell? ⟨R,0,ν⟩=ς x0/\W.cell? ⟨R,1,ν⟩=ς x1/\W.cell? ⟨R,2,ν⟩=ς x2/\W.cell? ⟨R,3,ν⟩=ς x3/\W.cell? ⟨R,4,ν⟩=ς x4/\W.cell? ⟨R,5,ν⟩=ς x5/\W.cell? ⟨R,6,ν⟩=ς x6/\W.cell? ⟨R,7,ν⟩=ς x7:=
 ⟨ε _ _ 0 _ _ _ h,ε _ _ 1 _ _ _ h,ε _ _ 2 _ _ _ h,ε _ _ 3 _ _ _ h,ε _ _ 4 _ _ _ h,ε _ _ 5 _ _ _ h,ε _ _ 6 _ _ _ h,ε _ _ 7 _ _ _ h⟩
theorem PS(a:Option Addr)(n c:Nat)(T:Nat->Td)(k0:Int)(tb:ByteArray)(a2:Option Addr)(n2 c2:Nat)(a3:Option Addr)(n3 c3:Nat)(col:ByteArray)(a5:Option Addr)(n5 c5:Nat)(a6:Option Addr)(n6 c6:Nat)(a7:Option Addr)(n7 c7:Nat)(C:Nat->Clm)(w:ο)(h:TL w a n T)(hC:CL w a2 n2 C)(hn:n<=1000000)(hF:MM n T)(h20:0<n2)(h2m:n2<=1048576)(hcap:n2<=c2)(htb:tb.size<=1048576) :
 VK μ 19 #[χ #[σ a n c],χ #[ι κ k0,τ tb,σ a2 n2 c2,σ a3 n3 c3,τ col,σ a5 n5 c5,σ a6 n6 c6,σ a7 n7 c7]] w (LS w (FL T n tb n2 C).1 (FL T n tb n2 C).2):=by
 have HF:Hid (MM n T):=hF;clear hF;have hbU:υ w.heap.size w (((w.alloc (γ #[σ a n c] 28)).alloc (γ #[ι κ k0,τ tb,σ a2 n2 c2,σ a3 n3 c3,τ col,σ a5 n5 c5,σ a6 n6 c6,σ a7 n7 c7] 34)).alloc (γ #[σ ν 0 0] 28)):=Ay _ _ _ _;have hsU:(((w.alloc (γ #[σ a n c] 28)).alloc (γ #[ι κ k0,τ tb,σ a2 n2 c2,σ a3 n3 c3,τ col,σ a5 n5 c5,σ a6 n6 c6,σ a7 n7 c7] 34)).alloc (γ #[σ ν 0 0] 28)).heap.size=w.heap.size+3:=by rw [ω,ω,ω]
 have hq0:(((w.alloc (γ #[σ a n c] 28)).alloc (γ #[ι κ k0,τ tb,σ a2 n2 c2,σ a3 n3 c3,τ col,σ a5 n5 c5,σ a6 n6 c6,σ a7 n7 c7] 34)).alloc (γ #[σ ν 0 0] 28)).heap[w.heap.size]?=ς (γ #[σ a n c] 28 (0,0)):=AC (AC (η w _) (AD _ _)) (AD _ _);have hq1:(((w.alloc (γ #[σ a n c] 28)).alloc (γ #[ι κ k0,τ tb,σ a2 n2 c2,σ a3 n3 c3,τ col,σ a5 n5 c5,σ a6 n6 c6,σ a7 n7 c7] 34)).alloc (γ #[σ ν 0 0] 28)).heap[w.heap.size+1]?=ς (γ #[ι κ k0,τ tb,σ a2 n2 c2,σ a3 n3 c3,τ col,σ a5 n5 c5,σ a6 n6 c6,σ a7 n7 c7] 34 (0,0)):=by
  have q:=η (w.alloc (γ #[σ a n c] 28)) (γ #[ι κ k0,τ tb,σ a2 n2 c2,σ a3 n3 c3,τ col,σ a5 n5 c5,σ a6 n6 c6,σ a7 n7 c7] 34);rw [ω] at q;exact AC q (AD _ _)
 have hq2:(((w.alloc (γ #[σ a n c] 28)).alloc (γ #[ι κ k0,τ tb,σ a2 n2 c2,σ a3 n3 c3,τ col,σ a5 n5 c5,σ a6 n6 c6,σ a7 n7 c7] 34)).alloc (γ #[σ ν 0 0] 28)).heap[w.heap.size+1+1]?=ς (γ #[σ ν 0 0] 28 (0,0)):=by
  have q:=η ((w.alloc (γ #[σ a n c] 28)).alloc (γ #[ι κ k0,τ tb,σ a2 n2 c2,σ a3 n3 c3,τ col,σ a5 n5 c5,σ a6 n6 c6,σ a7 n7 c7] 34)) (γ #[σ ν 0 0] 28);rw [ω,ω] at q;exact q
 rcases ht:An T tb n with _ | j
 rotate_left
 ·
  have HA:Hid (FL T n tb n2 C=(Ap T n,2)):=by show _=_;unfold FL;rw [ht];rfl
  have hz:JR (An T tb n)=(j:Int):=by rw [ht];rfl
  clear ht;have hj0:(0:Int)<=(j:Int):=by omega
  go_enter Tryz.func19,Tryz.ntmps19
  go_wp2_with (first | (go_at_call 20;refine(Gz a n c T tb _ (h.later hbU) (by omega)).mono ?_;rintro e w1 ⟨rfl,hb1⟩;rw [hz];have r0:=AC hq0 hb1;have r2:=AC hq2 hb1;obtain⟨m0,-⟩:=AG r0) | (go_at_call 21;refine(Cd a n c T _ (h.later (AA hbU hb1)) (by omega) HF.out).mono ?_;rintro e w2 ⟨a8,c8,rfl,hL8,hb8⟩;have s2:=AC r2 hb8;obtain⟨m2,f2⟩:=AG s2))
  refine VE (AE Tryz.results19 _ _ (w.heap.size+1+1) 28 _ (0,0) _ rfl (BW s2 _) Tryz.underlying28 rfl (by kernel_rfl)) rfl ?_;rw [HA.out];exact BS (AA hbU hb1) hL8 hb8 (by omega) (by have:=hb1.size;omega) 2
 have HT:Hid (An T tb n=ν):=ht;have hz:JR (An T tb n)=-1:=by rw [ht];rfl
 clear ht;obtain⟨b2,off2,rfl,-⟩:=hC 0 h20;go_enter Tryz.func19,Tryz.ntmps19
 go_wp2_with (first | (go_at_call 20;refine(Gz a n c T tb _ (h.later hbU) (by omega)).mono ?_;rintro e w1 ⟨rfl,hb1⟩;rw [hz];have r0:=AC hq0 hb1;have r1:=AC hq1 hb1;have r2:=AC hq2 hb1;obtain⟨m0,-⟩:=AG r0;obtain⟨-,m1,m2,-⟩:=AJ r1))
 have hb10:=AA hbU hb1;have hs1:=hb1.size;go_loopw [6,7,18] (λ_ _ i wr=>∃ k:Nat,k<=n2/\i=ι κ k/\(∀ j,j<k->AR C (C j).s j=false)/\υ w1.heap.size w1 wr) (λ_ _ i _=>n2 - (VQ i).toNat)
 case atStart=>exact⟨0,by omega,rfl,λj hj=>by omega,VT _ _⟩
 case round=>
  obtain⟨k,hk,rfl,hno,hbr⟩:=hrel;have HNO:Hid (∀ j,j<k->AR C (C j).s j=false):=hno;clear hno;have q0:=AC r0 hbr;have q1:=AC r1 hbr;have q2:=AC r2 hbr;obtain⟨u0,-⟩:=AG q0;obtain⟨-,u1,u2,-⟩:=AJ q1;have hbw:=AA hb10 hbr;have hsr:=hbr.size;by_cases hlt:k<n2
  ·
   obtain⟨b3,off3,e3,c0,c1,hs3⟩:=hC.later hbw k hlt;obtain⟨rfl,rfl⟩:b2=b3/\off2=off3:=by simpa using e3
   clear e3;have hkn:(k:Int)<n2:=by omega
   have hkc:(k:Int)<=c2:=by omega
   have hkc2:k<=c2:=by omega
   have hk0:(0:Int)<=k:=by omega
   have v2:=AB (AD wr (γ #[τ (C k).s,ι κ (C k).t] 58)) u2;have hnew:=(ε _ _ 0 _ _ _ (η wr (γ #[τ (C k).s,ι κ (C k).t] 58)));have hCk:=hC.later (AA hbw (AD wr (γ #[τ (C k).s,ι κ (C k).t] 58)));go_upto_region 6 with (go_at_call 51;fail)
   refine VH (S:=λx=>υ (wr.alloc (γ #[τ (C k).s,ι κ (C k).t] 58)).heap.size (wr.alloc (γ #[τ (C k).s,ι κ (C k).t] 58)) x) (by kernel_rfl) (Ar _) (λjH=>?_);refine tk 0 jH ?_;refine tk 1 jH ?_ (hy:=λx jS=>by have k0:=AB jS v2;have k1:=AB jS hnew;go_simp<;>rfl)
   try simp only [zS]
   refine tk 2 jH ?_;refine tk 3 jH ?_;refine tk 4 jH ?_;refine tk 5 jH ?_ (hy:=λx jS=>by have k0:=AB jS v2;have k1:=AB jS hnew;go_simp<;>rfl)
   try simp only [zS]
   refine rd 6 (λK hK=>?_);go_simp;refine(Q0 (ς ⟨b2,off2,ν⟩) k c2 C (C k).s _ ((hCk.later jH).take (by omega)) (by omega)).mono ?_;rintro e w4 ⟨r4,rfl,hr4,hb4⟩;refine hK.out _ _ (AA jH hb4) (λjH=>?_);clear hK K;try simp only [zS]
   refine tk 7 jH ?_
   try simp only [zS]
   refine VP (by kernel_rfl) ?_ _;have hb5:=AA (AD wr (γ #[τ (C k).s,ι κ (C k).t] 58)) jH;clear jH;rcases hh:AR C (C k).s k
   ·
    have hr5:¬(0:Int)<=r4:=by rw [hr4,hh];simp
    go_wp2;go_roundw
    case rel=>exact⟨k+1,by omega,by go_num,λj hj=>by
     by_cases e:j=k
     · rw [e];exact hh
     · exact HNO.out j (by omega),AA hbr hb5⟩
    case measure=>simp [VQ];omega
   ·
    have hr5:(0:Int)<=r4:=hr4.2 hh;have HA:Hid (FL T n tb n2 C=(Ap T n,3)):=by show _=_;unfold FL;rw [HT.out,QA hlt hh];rfl
    have s0:=AC q0 hb5;have s1:=AC q2 hb5;obtain⟨y0,-⟩:=AG s0;have hs5:=hb5.size;go_wp2_with (first | (go_at_call 21;refine(Cd a n c T _ (h.later (AA hbw hb5)) (by omega) HF.out).mono ?_;rintro e w2 ⟨a8,c8,rfl,hL8,hb8⟩;have s2:=AC s1 hb8;obtain⟨y2,f2⟩:=AG s2))
    refine VE (AE Tryz.results19 _ _ (w.heap.size+1+1) 28 _ (0,0) _ rfl (BW s2 _) Tryz.underlying28 rfl (by kernel_rfl)) rfl ?_;rw [HA.out];exact BS (AA hbw hb5) hL8 hb8 (by omega) (by omega) 3
  ·
   obtain rfl:k=n2:=by omega
   have HDF:Hid (DW C k=true):=Ak (λj hj=>by rw [HNO.out j hj];rfl);by_cases hN:n=100
   ·
    subst hN;have HA:Hid (FL T 100 tb k C=(Ap T 100,6)):=by show _=_;unfold FL;rw [HT.out,HDF.out];rfl
    go_wp2_with (first | (go_at_call 21;refine(Cd a 100 c T _ (h.later hbw) (by omega) HF.out).mono ?_;rintro e w2 ⟨a8,c8,rfl,hL8,hb8⟩;have s2:=AC q2 hb8;obtain⟨y2,f2⟩:=AG s2))
    refine VE (AE Tryz.results19 _ _ (w.heap.size+1+1) 28 _ (0,0) _ rfl (BW s2 _) Tryz.underlying28 rfl (by kernel_rfl)) rfl ?_;rw [HA.out];exact BS hbw hL8 hb8 (by omega) (by omega) 6
   ·
    have nN:((n:Int) == 100)=false:=by simp;omega
    have HA:Hid (FL T n tb k C=(DB T ⟨tb,k,C,0,λ_=>0,λ_ _=>d0⟩ n,0)):=by show _=_;unfold FL;rw [HT.out,HDF.out,if_neg (by simp),if_neg (by simp),if_neg hN]
    clear hN;have HSM:Hid (Sm3 ⟨tb,k,C,0,λ_=>0,λ_ _=>d0⟩):=⟨htb,⟨h2m,λj hj=>by obtain⟨_,_,_,_,_,hz⟩:=hC j hj;exact hz⟩,⟨by show (0:Nat)<=_;omega,λj hj=>absurd hj (Vc j)⟩⟩;go_wp2_with (first | (go_at_call 52;refine(FW a n c T tb k C 0 (λ_=>0) (λ_ _=>d0) (ς ⟨b2,off2,ν⟩) c2 ν 0 _ rfl _ (h.later hbw) (hC.later hbw) (λj hj=>absurd hj (Vc j)) HSM.out hn HF.out ⟨h20,λj hj=>absurd hj (Vc j)⟩).mono ?_;rintro e w2 ⟨a8,c8,rfl,hL8,hb8⟩;have s2:=AC q2 hb8;obtain⟨y2,f2⟩:=AG s2))
    refine VE (AE Tryz.results19 _ _ (w.heap.size+1+1) 28 _ (0,0) _ rfl (BW s2 _) Tryz.underlying28 rfl (by kernel_rfl)) rfl ?_;rw [HA.out];exact C2 hbw hL8 hb8 (by omega) (by omega) 0
def r0:Rw:=(0,λ_=>d0)
def F1(C:Nat->Clm)(n:Nat)(m:Nat->Nat)(R:Nat->Nat->Itm)(W:Nat->Itm)(n6:Nat):Nat->List Rw
 | 0=>[]
 | k+1=>F1 C n m R W n6 k ++ Eb (!Bp C n (R k) W n6) (m k,R k)
theorem L8{C:Nat->Clm}{n:Nat}{m:Nat->Nat}{R:Nat->Nat->Itm}{W:Nat->Itm}{n6:Nat}{P:Rw->Prop}:∀ {k:Nat},(∀ j,j<k->P (m j,R j))->∀ x∈F1 C n m R W n6 k,P x
 | 0,_,x,hx=>by cases hx
 | k+1,h,x,hx=>by
  simp only [F1,List.mem_append] at hx
  rcases hx with hx | hx
  · exact L8 (λj hj=>h j (by omega)) x hx
  · rw [Fa hx];exact h k (by omega)
theorem JN{C:Nat->Clm}{n:Nat}{m:Nat->Nat}{R:Nat->Nat->Itm}{W:Nat->Itm}{n6:Nat}:∀ {k:Nat},(F1 C n m R W n6 k).length<=k
 | 0=>by simp [F1]
 | k+1=>by
  have ih:=JN (C:=C) (n:=n) (m:=m) (R:=R) (W:=W) (n6:=n6) (k:=k);simp only [F1,VJ,DE]
  split <;> omega
def CA(ds:ByteArray)(dn:Nat)(dC:Nat->Clm)(A:List Rw):Td:=⟨ds,dn,dC,A.length,λi=>(A.getD i r0).1,λi=>(A.getD i r0).2⟩
def JO(T:Nat->Td)(n:Nat)(ds:ByteArray)(dn:Nat)(dC:Nat->Clm)(dr:Nat)(dm:Nat->Nat)(dR:Nat->Nat->Itm)(W:Nat->Itm)(n6:Nat):List Td×Int:=
 if CM dC dn W n6=0 then (DB T (CA ds dn dC (F1 dC dn dm dR W n6 dr)) n,0) else (Ap T n,CM dC dn W n6)
structure Nice(dn dr:Nat)(dm:Nat->Nat)(dR:Nat->Nat->Itm):Prop where
 n0:0<dn
 n1:dn<=1048576
 r1:dr<=1000000
 len:∀ k,k<dr->dm k=dn
 txt:∀ k,k<dr->∀ j,j<dn->(dR k j).s.size<=200
theorem ER.of{w:ο}{ar:Option Addr}{dr:Nat}{dm:Nat->Nat}{dR:Nat->Nat->Itm}(h:OL w ar dr dm dR){k:Nat}(hk:k<dr):∃ b off i c,ar=ς ⟨b,off,ν⟩/\w.cell? ⟨b,off+k,ν⟩=ς (σ i (dm k) c)/\Liv (λb=>b<w.heap.size) w (ER [σ i (dm k) c] (dm k,dR k))/\IL w i (dm k) (dR k):=by
 obtain⟨b,off,i,c,e,c0,hI,hs⟩:=h k hk;exact⟨b,off,i,c,e,c0,hI.lb.imp (λ_ h=>⟨_,_,rfl,h,hs⟩),hI⟩
theorem Ae{α:Type}{A:List α}{i:Nat}{y:α}(h:i<A.length):A.getD i y∈A:=by
 have e:A.getD i y=A[i]:=by simp [h]
 rw [e];exact List.getElem_mem h
theorem PR(a:Option Addr)(n c:Nat)(T:Nat->Td)(ds:ByteArray)(dn:Nat)(dC:Nat->Clm)(dr:Nat)(dm:Nat->Nat)(dR:Nat->Nat->Itm)(ac:Option Addr)(cc:Nat)(ar:Option Addr)(cr:Nat)(k0:Int)(tb:ByteArray)(a2:Option Addr)(n2 c2:Nat)(a3:Option Addr)(n3 c3:Nat)(col:ByteArray)(a5:Option Addr)(n5 c5:Nat)(a6:Option Addr)(n6 c6:Nat)(a7:Option Addr)(n7 c7:Nat)(W:Nat->Itm)(w:ο)(h:TL w a n T)(hC:CL w ac dn dC)(hR:OL w ar dr dm dR)(hW:IL w a6 n6 W)(hn:n<=1000000)(hF:MM n T)(hN:Nice dn dr dm dR)(hds:ds.size<=1048576)(hok:AI W n6=true) :
 VK μ 24 #[χ #[σ a n c],χ #[τ ds,σ ac dn cc,σ ar dr cr],χ #[ι κ k0,τ tb,σ a2 n2 c2,σ a3 n3 c3,τ col,σ a5 n5 c5,σ a6 n6 c6,σ a7 n7 c7]] w (LS w (JO T n ds dn dC dr dm dR W n6).1 (JO T n ds dn dC dr dm dR W n6).2):=by
 have HF:Hid (MM n T):=hF;have HN:Hid (Nice dn dr dm dR):=hN;have HOK:Hid (AI W n6=true):=hok;have hn1:=hN.n1;have hr1:=hN.r1;clear hF hN hok;obtain⟨jr,hir,hzr0,hzr1,hzr2⟩:=info_parts Tryz.infoRow;have HIr:Hid (Tryz.prog.info? 30=ς jr):=hir;clear hir;have hbU:υ w.heap.size w ((((w.alloc (γ #[σ a n c] 28)).alloc (γ #[τ ds,σ ac dn cc,σ ar dr cr] 67)).alloc (γ #[ι κ k0,τ tb,σ a2 n2 c2,σ a3 n3 c3,τ col,σ a5 n5 c5,σ a6 n6 c6,σ a7 n7 c7] 34)).alloc (γ #[σ ν 0 0] 28)):=AA (Ay _ _ _ _) (AD _ _);have hsU:((((w.alloc (γ #[σ a n c] 28)).alloc (γ #[τ ds,σ ac dn cc,σ ar dr cr] 67)).alloc (γ #[ι κ k0,τ tb,σ a2 n2 c2,σ a3 n3 c3,τ col,σ a5 n5 c5,σ a6 n6 c6,σ a7 n7 c7] 34)).alloc (γ #[σ ν 0 0] 28)).heap.size=w.heap.size+4:=by rw [ω,ω,ω,ω]
 have hq0:((((w.alloc (γ #[σ a n c] 28)).alloc (γ #[τ ds,σ ac dn cc,σ ar dr cr] 67)).alloc (γ #[ι κ k0,τ tb,σ a2 n2 c2,σ a3 n3 c3,τ col,σ a5 n5 c5,σ a6 n6 c6,σ a7 n7 c7] 34)).alloc (γ #[σ ν 0 0] 28)).heap[w.heap.size]?=ς (γ #[σ a n c] 28 (0,0)):=AC (AC (AC (η w _) (AD _ _)) (AD _ _)) (AD _ _);have hq1:((((w.alloc (γ #[σ a n c] 28)).alloc (γ #[τ ds,σ ac dn cc,σ ar dr cr] 67)).alloc (γ #[ι κ k0,τ tb,σ a2 n2 c2,σ a3 n3 c3,τ col,σ a5 n5 c5,σ a6 n6 c6,σ a7 n7 c7] 34)).alloc (γ #[σ ν 0 0] 28)).heap[w.heap.size+1]?=ς (γ #[τ ds,σ ac dn cc,σ ar dr cr] 67 (0,0)):=by
  have q:=η (w.alloc (γ #[σ a n c] 28)) (γ #[τ ds,σ ac dn cc,σ ar dr cr] 67);rw [ω] at q;exact AC (AC q (AD _ _)) (AD _ _)
 have hq2:((((w.alloc (γ #[σ a n c] 28)).alloc (γ #[τ ds,σ ac dn cc,σ ar dr cr] 67)).alloc (γ #[ι κ k0,τ tb,σ a2 n2 c2,σ a3 n3 c3,τ col,σ a5 n5 c5,σ a6 n6 c6,σ a7 n7 c7] 34)).alloc (γ #[σ ν 0 0] 28)).heap[w.heap.size+1+1]?=ς (γ #[ι κ k0,τ tb,σ a2 n2 c2,σ a3 n3 c3,τ col,σ a5 n5 c5,σ a6 n6 c6,σ a7 n7 c7] 34 (0,0)):=by
  have q:=η ((w.alloc (γ #[σ a n c] 28)).alloc (γ #[τ ds,σ ac dn cc,σ ar dr cr] 67)) (γ #[ι κ k0,τ tb,σ a2 n2 c2,σ a3 n3 c3,τ col,σ a5 n5 c5,σ a6 n6 c6,σ a7 n7 c7] 34);rw [ω,ω] at q;exact AC q (AD _ _)
 have hq3:((((w.alloc (γ #[σ a n c] 28)).alloc (γ #[τ ds,σ ac dn cc,σ ar dr cr] 67)).alloc (γ #[ι κ k0,τ tb,σ a2 n2 c2,σ a3 n3 c3,τ col,σ a5 n5 c5,σ a6 n6 c6,σ a7 n7 c7] 34)).alloc (γ #[σ ν 0 0] 28)).heap[w.heap.size+1+1+1]?=ς (γ #[σ ν 0 0] 28 (0,0)):=by
  have q:=η (((w.alloc (γ #[σ a n c] 28)).alloc (γ #[τ ds,σ ac dn cc,σ ar dr cr] 67)).alloc (γ #[ι κ k0,τ tb,σ a2 n2 c2,σ a3 n3 c3,τ col,σ a5 n5 c5,σ a6 n6 c6,σ a7 n7 c7] 34)) (γ #[σ ν 0 0] 28);rw [ω,ω,ω] at q;exact q
 obtain⟨cd,hcd⟩:∃ cd,CM dC dn W n6=cd:=⟨_,rfl⟩;have HCW:=Io ac dn cc dC a6 n6 c6 W ((((w.alloc (γ #[σ a n c] 28)).alloc (γ #[τ ds,σ ac dn cc,σ ar dr cr] 67)).alloc (γ #[ι κ k0,τ tb,σ a2 n2 c2,σ a3 n3 c3,τ col,σ a5 n5 c5,σ a6 n6 c6,σ a7 n7 c7] 34)).alloc (γ #[σ ν 0 0] 28)) (hC.later hbU) (hW.later hbU) hn1 HOK.out;rw [hcd] at HCW;have HCD:Hid (CM dC dn W n6=cd):=hcd;clear hcd;obtain⟨p0,-⟩:=AG hq0;obtain⟨p1,p2,p3,-⟩:=AL hq1;obtain⟨-,-,-,-,-,-,p6,-⟩:=AJ hq2;by_cases h0:cd=0
 rotate_left
 ·
  have n0:(cd != 0)=true:=by simpa using h0
  have HA:Hid (JO T n ds dn dC dr dm dR W n6=(Ap T n,cd)):=by show _=_;unfold JO;rw [HCD.out,if_neg h0]
  clear h0;go_enter Tryz.func24,Tryz.ntmps24
  go_wp2_with (first | (go_at_call 26;refine HCW.mono ?_;rintro e w1 ⟨rfl,hb1⟩;have r0:=AC hq0 hb1;have r3:=AC hq3 hb1;obtain⟨m0,-⟩:=AG r0) | (go_at_call 21;refine(Cd a n c T _ (h.later (AA hbU hb1)) (by omega) HF.out).mono ?_;rintro e w2 ⟨a8,c8,rfl,hL8,hb8⟩;have s2:=AC r3 hb8;obtain⟨m2,f2⟩:=AG s2))
  refine VE (AE Tryz.results24 _ _ (w.heap.size+1+1+1) 28 _ (0,0) _ rfl (BW s2 _) Tryz.underlying28 rfl (by kernel_rfl)) rfl ?_;rw [HA.out];exact BS (AA hbU hb1) hL8 hb8 (by omega) (by have:=hb1.size;omega) _
 subst h0;go_enter Tryz.func24,Tryz.ntmps24
 go_wp2_with (first | (go_at_call 26;refine HCW.mono ?_;rintro e w1 ⟨rfl,hb1⟩;have r0:=AC hq0 hb1;have r1:=AC hq1 hb1;have r2:=AC hq2 hb1;have r3:=AC hq3 hb1;obtain⟨m1,m2,m3,-⟩:=AL (AC r1 (AD w1 (γ #[] 30)))))
 have hb10:=AA hbU hb1;have hs1:=hb1.size;have hO0:(w1.alloc (γ #[] 30)).ownsRow w1.heap.size 30 1 (σ (ς ⟨w1.heap.size,0,ν⟩) 0 0) 0 []:=VU w1 #[] 0 (VD _) (by unfold maxLen;omega) rfl;go_loopw [9,11,26] (λv _ i wr=>∃ (k:Nat) (A:List Rw) (g cap:Nat) (f:Nat->List VN),k<=dr/\i=ι κ k/\v=σ (ς ⟨g,0,ν⟩) A.length cap/\F1 dC dn dm dR W n6 k=A/\RO w1.heap.size (λb=>b<w.heap.size) wr (σ (ς ⟨g,0,ν⟩) A.length cap) A.length (λi=>A.getD i _root_.Go.Proofs.YtoeencbghldmdaaGreatDoor.r0) f/\υ w1.heap.size w1 wr) (λ_ _ i _=>dr - (VQ i).toNat)
 case atStart=>exact⟨0,[],w1.heap.size,0,λ_=>[],by omega,rfl,rfl,rfl,GO.nil hO0,AD _ _⟩
 case round=>
  obtain⟨k,A,g,cap,f,hk,rfl,rfl,hdl,hRO,hbr⟩:=hrel;have HDL:Hid (F1 dC dn dm dR W n6 k=A):=hdl;have hAl:A.length<=k:=by rw [←hdl];exact JN
  clear hdl;have hbw:=AA hb10 hbr;have hsr:=hbr.size;have q0:=AC r0 hbr;have q1:=AC r1 hbr;have q2:=AC r2 hbr;have q3:=AC r3 hbr;obtain⟨u1,u2,u3,uf1,uf2,uf3⟩:=AL q1;obtain⟨-,-,-,-,-,-,u6,-⟩:=AJ q2;have hgl:=hRO.own.lt g rfl;by_cases hlt:k<dr
  ·
   obtain⟨bR,offR,ai,ci,rfl,d1,hLE,hI⟩:=ER.of hR hlt;have hmk:=HN.out.len k hlt;have d2:=AB hbw d1;rw [hmk] at d2 hI;have HLE:Hid (∀ W',υ w.heap.size w W'->Liv (λb=>b<w.heap.size) W' (ER [σ ai dn ci] (dm k,dR k))):=λW' hW'=>by
    have:=hLE.later hW';rwa [show σ ai (dm k) ci=σ ai dn ci from by rw [hmk]] at this
   clear hmk d1 hLE;have hkr:(k:Int)<dr:=by omega
   have HFT:=NX ac dn cc dC ai ci (dR k) a6 n6 c6 W wr (hC.later hbw) (hI.later hbw) (hW.later hbw) hn1 HOK.out HCD.out (HN.out.txt k hlt);have HST:Hid (F1 dC dn dm dR W n6 (k+1)=A ++ Eb (!Bp dC dn (dR k) W n6) (dm k,dR k)):=by show _=_;rw [F1,HDL.out]
   obtain⟨fb,hfb⟩:∃ fb,Bp dC dn (dR k) W n6=fb:=⟨_,rfl⟩;rw [hfb] at HFT HST;clear hfb;cases fb
   ·
    go_wp2_with (first | (at_builtin;have _h:=hb4;refine VR _ rfl _ _ _ rfl w1.heap.size 30 jr (σ ν 0 0) 1 24 Tryz.underlying43 HIr.out hzr0 hzr1 hzr2 rfl (by omega) (σ (ς ⟨g,0,ν⟩) A.length cap) A.length (BU f A.length) rfl (hRO4.later (AD _ _)).own ⟨w4.heap.size,0,ν⟩ 1 1 [σ ai dn ci] rfl rfl (VI (η w4 _)) (Bt _ rfl) (by omega) (by unfold maxLen;omega) (by omega) (by have:=hb4.size;simp;omega) _ rfl ?_;intro g8 cap8 w8 hO8 hgr8 hat8 hlt8) | (go_at_call 36;refine HFT.mono ?_;rintro e w4 ⟨rfl,hb4⟩;have hRO4:=hRO.later hb4))
    have hL4:Liv (λb=>b<w.heap.size/\ς b≠(σ (ς ⟨g,0,ν⟩) A.length cap).ownBlock) w4 (ER [σ ai dn ci] (dm k,dR k)):=(HLE.out _ (AA hbw hb4)).wide (λb hx _=>⟨hx,by show ς b≠ς g;intro e2;have e3:b=g:=VF e2;omega⟩);have hP:=GO.snoc (x:=(dm k,dR k)) (hRO4.later (AD _ _)) (c:=[σ ai dn ci]) rfl (hL4.later (AD _ _)) hO8 hgr8 hat8;have hb8:=gB (AA (AA hbr hb4) (AD _ _)) (r:=g) hgr8 hgl.1;have eA:(A ++ [(dm k,dR k)]).length=A.length+1:=by simp
    go_roundw
    case rel=>exact⟨k+1,A ++ [(dm k,dR k)],g8,cap8,_,by omega,by go_num,by rw [eA],by rw [HST.out];rfl,hP,hb8⟩
    case measure=>simp [VQ];omega
   ·
    go_wp2_with (go_at_call 36;refine HFT.mono ?_;rintro e w4 ⟨rfl,hb4⟩)
    go_roundw
    case rel=>exact⟨k+1,A,g,cap,f,by omega,by go_num,rfl,by rw [HST.out];simp [Eb],hRO.later hb4,AA hbr hb4⟩
    case measure=>simp [VQ];omega
  ·
   obtain rfl:k=dr:=by omega
   have HA:Hid (JO T n ds dn dC k dm dR W n6=(DB T (CA ds dn dC A) n,0)):=by show _=_;unfold JO;rw [HCD.out,if_pos rfl,HDL.out]
   have HAM:Hid (∀ i,i<A.length->(A.getD i _root_.Go.Proofs.YtoeencbghldmdaaGreatDoor.r0).1=dn/\∀ j,j<dn->((A.getD i _root_.Go.Proofs.YtoeencbghldmdaaGreatDoor.r0).2 j).s.size<=200):=λi hi=>by
    have:=Ae (y:=_root_.Go.Proofs.YtoeencbghldmdaaGreatDoor.r0) hi;rw [←HDL.out] at this ⊢;exact L8 (P:=λx=>x.1=dn/\∀ j,j<dn->(x.2 j).s.size<=200) (λj hj=>⟨HN.out.len j hj,HN.out.txt j hj⟩) _ this
   have qY:(wr.setCell ⟨w.heap.size+1,2,ν⟩ (σ (ς ⟨g,0,ν⟩) A.length cap)).heap[w.heap.size+1]?=ς (γ #[τ ds,σ ac dn cc,σ (ς ⟨g,0,ν⟩) A.length cap] 67 (0,0)):=π _ _ 2 _ _ _ q1;have hbY:υ w.heap.size w (wr.setCell ⟨w.heap.size+1,2,ν⟩ (σ (ς ⟨g,0,ν⟩) A.length cap)):=Bg hbw (by omega);have hsY:(wr.setCell ⟨w.heap.size+1,2,ν⟩ (σ (ς ⟨g,0,ν⟩) A.length cap)).heap.size=wr.heap.size:=Ve _ _ _;obtain⟨y1,y2,y3,-⟩:=AL qY;obtain⟨y0,-⟩:=AG (Af (i:=2) (v:=σ (ς ⟨g,0,ν⟩) A.length cap) q0 (show w.heap.size≠w.heap.size+1 by omega));have q3Y:=Af (B:=w.heap.size+1) (i:=2) (v:=σ (ς ⟨g,0,ν⟩) A.length cap) q3 (by omega);obtain⟨aO,cO,eO,hOL⟩:=RO.ol (hRO.set (B:=w.heap.size+1) (i:=2) (u:=σ (ς ⟨g,0,ν⟩) A.length cap) (by omega) (by omega));obtain⟨rfl,rfl⟩:ς ⟨g,0,ν⟩=aO/\cap=cO:=by simpa using eO
   have HSM:Hid (Sm3 (CA ds dn dC A)):=⟨hds,⟨hn1,λj hj=>by obtain⟨_,_,_,_,_,hz⟩:=hC j hj;exact hz⟩,⟨by show A.length<=_;omega,λj hj=>⟨by show (A.getD j _).1<=_;rw [(HAM.out j hj).1];exact hn1,λq hq=>by
    have e1:=HAM.out j hj;have e2:q<dn:=by rw [←e1.1];exact hq
    have:=e1.2 q e2;show ((A.getD j _).2 q).s.size<=_
    omega⟩⟩⟩
   have HNN:Hid (0<(CA ds dn dC A).n/\∀ i,i<(CA ds dn dC A).r->0<(CA ds dn dC A).m i):=⟨HN.out.n0,λi hi=>by show 0<(A.getD i _).1;rw [(HAM.out i hi).1];exact HN.out.n0⟩;go_wp2_with (first | (go_at_call 52;refine(FW a n c T ds dn dC A.length (λi=>(A.getD i _root_.Go.Proofs.YtoeencbghldmdaaGreatDoor.r0).1) (λi=>(A.getD i _root_.Go.Proofs.YtoeencbghldmdaaGreatDoor.r0).2) ac cc (ς ⟨g,0,ν⟩) cap (CA ds dn dC A) rfl _ (h.later hbY) (hC.later hbY) hOL HSM.out hn HF.out HNN.out).mono ?_;rintro e w2 ⟨a8,c8,rfl,hL8,hb8⟩;have s2:=AC q3Y hb8;obtain⟨z2,f2⟩:=AG s2))
   refine VE (AE Tryz.results24 _ _ (w.heap.size+1+1+1) 28 _ (0,0) _ rfl (BW s2 _) Tryz.underlying28 rfl (by kernel_rfl)) rfl ?_;rw [HA.out];exact C2 hbY hL8 hb8 (by omega) (by omega) 0
def A0(R:Nat->Nat->Itm)(m:Int)(s:ByteArray):Nat->Nat
 | 0=>0
 | r+1=>if A0 R m s r=r/\BH (R r 0).m (R r 0).s m s<0 then r+1 else A0 R m s r
theorem Dc{R:Nat->Nat->Itm}{m:Int}{s:ByteArray}:∀ {r:Nat},A0 R m s r<=r
 | 0=>VD _
 | r+1=>by
  rw [A0];have:=Dc (R:=R) (m:=m) (s:=s) (r:=r);split <;> omega
theorem MZ{R:Nat->Nat->Itm}{m:Int}{s:ByteArray}{k:Nat}(h1:A0 R m s k=k)(h2:¬BH (R k 0).m (R k 0).s m s<0):∀ r,k<r->A0 R m s r=k:=by
 intro r hr;induction r with
 | zero=>omega
 | succ r ih=>
  rw [A0];by_cases e:k=r
  · subst e;rw [if_neg (λh=>h2 h.2),h1]
  · have:=ih (by omega);rw [this,if_neg (λh=>e h.1)]
theorem OL.cells{w:ο}{ad:Addr}{n:Nat}{m:Nat->Nat}{O:Nat->Nat->Itm}(h:OL w (ς ad) n m O):∃ q:Nat->List VN,(∀ k,k<n->(q k).length=1)/\(∀ k,k<n->∀ u∈q k,u.oneCell'=true)/\(∀ k,k<n->∀ u,(q k)[0]?=ς u->w.cell? ⟨ad.block,ad.off+k,ν⟩=ς u)/\∀ k,k<n->Liv (λb=>b<w.heap.size) w (ER (q k) (m k,O k)):=by
 have key:∀ k,∃ v:VN,k<n->(v.oneCell'=true/\w.cell? ⟨ad.block,ad.off+k,ν⟩=ς v/\Liv (λb=>b<w.heap.size) w (ER [v] (m k,O k))):=λk=>by
  by_cases hk:k<n
  · obtain⟨b,off,i,c,e,c0,hI,hs⟩:=h k hk;obtain rfl:ad=⟨b,off,ν⟩:=VF e;exact⟨σ i (m k) c,λ_=>⟨rfl,c0,hI.lb.imp (λ_ h=>⟨_,_,rfl,h,hs⟩)⟩⟩
  · exact⟨β false,λh=>absurd h hk⟩
 refine⟨λk=>[(key k).choose],λk _=>rfl,λk hk u hu=>?_,λk hk u hu=>?_,λk hk=>((key k).choose_spec hk).2.2⟩
 ·
  simp only [List.mem_cons,List.not_mem_nil,or_false] at hu
  rw [hu];exact((key k).choose_spec hk).1
 · obtain rfl:(key k).choose=u:=VF hu;exact((key k).choose_spec hk).2.1
theorem GO.app{α:Type}{T sz G:Nat}{D:Nat->Prop}{E:List VN->α->ο->Prop}{w w':ο}{v:VN}{n k g' cap':Nat}{x:Nat->α}{f c:Nat->List VN}(h:GO T sz G D E w v n x f)(hc:∀ i,i<k->(c i).length=sz)(hl:∀ i,i<k->Liv (λb=>D b/\ς b≠v.ownBlock) w (E (c i) (x (n+i))))
 (hO:w'.ownsRow G T sz (σ (ς ⟨g',0,ν⟩) (n+k) cap') (n+k) (BU f n ++ BU c k)) (hgr:w.grownBy w' v.ownBlock) (hDG:∀ b,D b->b<G) :
 GO T sz G D E w' (σ (ς ⟨g',0,ν⟩) (n+k) cap') (n+k) x (λi=>if i<n then f i else c (i - n)):=by
 have key:∀ {P:ο->Prop},Liv (λb=>D b/\ς b≠v.ownBlock) w P->Liv (λb=>D b/\ς b≠(σ (ς ⟨g',0,ν⟩) (n+k) cap').ownBlock) w' P:=λhp=>by
  have h2:=hp.grown hgr (λb hb=>hb.2);refine h2.wide (λb hb _=>⟨hb.1,?_⟩);show ς b≠ς g'
  intro e2;have e3:b=g':=VF e2;have h3:=(hO.lt g' rfl).1;have h4:=hDG b hb.1;omega
 have ef:∀ j,j<=k->BU (λi=>if i<n then f i else c (i - n)) (n+j)=BU f n ++ BU c j:=by
  intro j;induction j with
  | zero=>
   intro _;rw [Vf,OV,List.append_nil];exact Dy (λq hq=>by simp [hq])
  | succ j ih=>
   intro hj;rw [←Nat.add_assoc,Bs,ih (by omega),Bs,if_neg (by omega),List.append_assoc];congr 2
   rw [show n+j - n=j from by omega]
 refine⟨?_,λi hi=>?_,λi hi=>?_⟩
 · rw [ef k (VD _)];exact hO
 ·
  show (if i<n then f i else c (i - n)).length=sz
  split
  · rename_i h1;exact h.len i h1
  · exact hc _ (by omega)
 ·
  show Liv _ _ (E (if i<n then f i else c (i - n)) (x i))
  split
  · rename_i h1;exact key (h.liv i h1)
  · have:=key (hl (i - n) (by omega));rwa [show n+(i - n)=i from by omega] at this
def Cb(dm:Nat->Nat)(dR:Nat->Nat->Itm)(x:Rw)(k:Nat):Nat->Rw:=λi=>if i<k then (dm i,dR i) else if i=k then x else (dm (i - 1),dR (i - 1))
