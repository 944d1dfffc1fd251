import Derived.Test.YtoeencbghldmdaaGreatDoorXn
open Array renaming getElem?_eq_some_iff → VL
open Bool renaming and_eq_true → VO
open Go renaming Calls → VK, World → ο, bodyPost_ret → VE, heap_alloc_new → η, results_tmp2 → VZ, heap_setCell_same → π, cell_of_row → ε, frozen_of_row → ζ, wpAnyH_done → VP, wp_region_held_drew → VH
open Go.Ending renaming returned → ρ
open Go.IntKind renaming i64 → κ
open Go.Obj renaming cells → γ
open Go.Op renaming bytesLess → Va
open Go.Proofs.Tryz renaming prog → μ
open Go.RowKit renaming Below → υ
open Go.Value renaming agg → χ, int → ι, slice → σ, string → τ, tuple → θ
open Go.World renaming size_alloc → ω, size_setCell → Ve
open List renaming length_take → VY
open Nat renaming le_refl → VD, add_zero → Vf
open Option renaming none → ν, some → ς
open Or renaming inl → VV, inr → Vb
namespace Go.Proofs.YtoeencbghldmdaaGreatDoor
open Go.RowKit Go.Maps Go.WideMaps
def Kt(t:Int)(x:Rw):Prop:=Bu (x.2 0)/\(x.2 0).o=t
structure KeyW(t:Int)(key:Rw->Lit)(le:Ro->Ro->Bool):Prop where
 same:∀ x y,Kt t x->Kt t y->((key x).sameKey (key y)=true↔Ao x y=0)
 le:∀ p q:Ro,Kt t p.x->Kt t q.x->(le p q=true↔Ao p.x q.x<=0)
theorem FJ{t:Int}{x y:Rw}(hx:Kt t x)(hy:Kt t y):Ao x y=0↔(x.2 0).m=(y.2 0).m/\(x.2 0).s=(y.2 0).s:=by
 have:=Oo hx.1 hy.1 (hx.2.trans hy.2.symm);unfold Ao;exact decide_eq_decide.1 this
theorem HJ{t:Int}{x y:Rw}(hx:Kt t x)(hy:Kt t y):Ao x y<0↔El t (x.2 0).m (x.2 0).s (y.2 0).m (y.2 0).s=true:=by
 have h:=On hx.1 hy.1 (hx.2.trans hy.2.symm);rw [hx.2] at h;unfold Ao;rw [←h];simp
theorem Kt.one{x:Rw}(h:Kt 1 x):(x.2 0).s=⟨#[]⟩:=by
 obtain⟨⟨-,h1⟩ | ⟨h1,-⟩,h2⟩:=h
 · exact h1
 · omega
theorem Kt.two{t:Int}{x:Rw}(h:Kt t x)(ht:¬t=1):(x.2 0).m=0:=by
 obtain⟨⟨h1,-⟩ | ⟨-,h1⟩,h2⟩:=h
 · omega
 · exact h1
theorem Pl:KeyW 1 kI DG:=by
 refine⟨λx y hx hy=>?_,λp q hp hq=>?_⟩
 · rw [FJ hx hy,hx.one,hy.one];simp [kI,Lit.sameKey]
 ·
  have h1:=FJ hp hq;have h2:=HJ hp hq;rw [hp.one,hq.one] at h1;simp only [El,if_pos,decide_eq_true_eq,and_true] at h1 h2
  simp only [DG,decide_eq_true_eq]
  omega
theorem Pk{t:Int}(ht:¬t=1):KeyW t kS DF:=by
 refine⟨λx y hx hy=>?_,λp q hp hq=>?_⟩
 ·
  rw [FJ hx hy,hx.two ht,hy.two ht];simp only [kS,Lit.sameKey,beq_iff_eq,true_and]
  exact⟨λe=>BD (by rw [ByteArray.toList_eq,ByteArray.toList_eq];exact e),λe=>by rw [e]⟩
 ·
  have h1:=FJ hp hq;have h2:=HJ hp hq;rw [hp.two ht,hq.two ht] at h1;unfold El at h2;rw [if_neg ht,bytesLess_eq,ByteArray.toList_eq,ByteArray.toList_eq] at h2;simp only [decide_eq_true_eq,true_and] at h1 h2
  simp only [DF,decide_eq_true_eq]
  constructor
  ·
   intro h;by_cases e:(p.x.2 0).s.data.toList=(q.x.2 0).s.data.toList
   · have:=h1.2 (BD (by rw [ByteArray.toList_eq,ByteArray.toList_eq];exact e));omega
   ·
    have hlt:(p.x.2 0).s.data.toList<(q.x.2 0).s.data.toList:=by
     rcases hb:Va (p.x.2 0).s.data.toList (q.x.2 0).s.data.toList with _ | _
     · have z:=Fj _ _ hb e;rw [bytesLess_eq,decide_eq_true_eq] at z;exact absurd z (List.not_lt.2 h)
     · rw [bytesLess_eq,decide_eq_true_eq] at hb;exact hb
    have:=h2.2 hlt;omega
  ·
   intro h;by_cases e:Ao p.x q.x=0
   · rw [h1.1 e];exact List.le_refl _
   · exact List.le_of_lt (h2.1 (by omega))
theorem Pn{t:Int}{x:Rw}(hx:Kt t x):Ao x x=0:=(FJ hx hx).2 ⟨rfl,rfl⟩
theorem I9{t:Int}{x y:Rw}(hx:Kt t x)(hy:Kt t y)(h:Ao x y=0):Ao y x=0:=by
 obtain⟨h1,h2⟩:=(FJ hx hy).1 h;exact(FJ hy hx).2 ⟨h1.symm,h2.symm⟩
theorem F6{t:Int}{x y:Rw}(hx:Kt t x)(hy:Kt t y):(Ao x y<0/\0<Ao y x)∨(Ao x y=0/\Ao y x=0)∨(0<Ao x y/\Ao y x<0):=by
 have e1:=FJ hx hy;have e2:=FJ hy hx;have l1:=HJ hx hy;have l2:=HJ hy hx;by_cases ht:t=1
 ·
  subst ht;rw [hx.one,hy.one] at e1 e2;simp only [El,if_pos,decide_eq_true_eq,and_true] at e1 e2 l1 l2
  omega
 ·
  rw [hx.two ht,hy.two ht] at e1 e2;unfold El at l1 l2;rw [if_neg ht] at l1 l2;simp only [true_and] at e1 e2
  rcases h:Va (x.2 0).s.toList (y.2 0).s.toList with _ | _
  ·
   rw [h] at l1;by_cases e:(x.2 0).s=(y.2 0).s
   · exact Vb (VV ⟨e1.2 e,e2.2 e.symm⟩)
   ·
    have h2:=Fj _ _ h (λz=>e (BD z));have a1:=l2.2 h2;have a2:¬Ao x y<0:=λz=>by have:=l1.1 z;cases this
    have a3:¬Ao x y=0:=λz=>e (e1.1 z);omega
  ·
   have a1:=l1.2 h;have h2:=IY h;rw [h2] at l2;have a2:¬Ao y x<0:=λz=>by have:=l2.1 z;cases this
   have a3:¬Ao y x=0:=λz=>by
    have:=e2.1 z;rw [this,Ez] at h;cases h
   omega
theorem Fl{t:Int}{x y z:Rw}(hx:Kt t x)(hy:Kt t y)(hz:Kt t z)(h1:Ao x y<0)(h2:Ao y z<0):Ao x z<0:=by
 rw [HJ hx hy] at h1;rw [HJ hy hz] at h2;rw [HJ hx hz];unfold El at *;split at h1
 ·
  rename_i ht
  rw [if_pos ht] at h2 ⊢;simp only [decide_eq_true_eq] at *
  omega
 ·
  rename_i ht
  rw [if_neg ht] at h2 ⊢;exact DP _ _ _ h1 h2
theorem Fm{t:Int}{x y z:Rw}(hx:Kt t x)(hy:Kt t y)(h:Ao x y=0):Ao x z=Ao y z/\Ao z x=Ao z y:=by
 obtain⟨h1,h2⟩:=(FJ hx hy).1 h;unfold Ao;rw [h1,h2];exact⟨rfl,rfl⟩
theorem Em{t:Int}{x y z:Rw}(hx:Kt t x)(hy:Kt t y)(hz:Kt t z)(h1:Ao x y<=0)(h2:Ao y z<=0):Ao x z<=0:=by
 by_cases e1:Ao x y=0
 · rw [(Fm (z:=z) hx hy e1).1];exact h2
 ·
  by_cases e2:Ao y z=0
  · rw [←(Fm (z:=x) hy hz e2).2];exact h1
  · have:=Fl hx hy hz (by omega) (by omega);omega
theorem Pm{t:Int}{X Y:List Rw}(hX:∀ x∈X,Kt t x)(hp:X.Perm Y)(h1:X.Pairwise (λx y=>Ao x y<0))(h2:Y.Pairwise (λx y=>Ao x y<0)):X=Y:=by
 refine List.Perm.eq_of_pairwise (le:=λx y=>Ao x y<0) (λa b ha hb e1 e2=>?_) h1 h2 hp;have:=F6 (hX a ha) (hX b (hp.mem_iff.2 hb));omega
theorem EG{t:Int}{key:Rw->Lit}{le:Ro->Ro->Bool}(hK:KeyW t key le){LL:List Ro}(hP:∀ r∈LL,Kt t r.x){Y:List Rw}(hp:(LL.map Ro.x).Perm Y)(hY:Y.Pairwise (λx y=>Ao x y<0)):(LL.mergeSort le).map Ro.x=Y:=by
 have hpm:=List.mergeSort_perm LL le;have hP2:∀ x∈LL.map Ro.x,Kt t x:=λx hx=>by
  obtain⟨r,hr,rfl⟩:=List.mem_map.1 hx;exact hP r hr
 have hpy:((LL.mergeSort le).map Ro.x).Perm Y:=(hpm.map _).trans hp;have hPm:∀ r∈LL.mergeSort le,Kt t r.x:=λr hr=>hP r (hpm.mem_iff.1 hr);have hPS:∀ x∈(LL.mergeSort le).map Ro.x,Kt t x:=λx hx=>hP2 x ((hpm.map _).mem_iff.1 hx)
 have hne:((LL.mergeSort le).map Ro.x).Pairwise (λx y=>Ao x y≠0∨¬Kt t x∨¬Kt t y):=by
  refine(hpy.pairwise_iff (λ{x y} h=>?_)).2 (hY.imp (λh=>VV (by omega)));rcases h with h | h | h
  ·
   by_cases hx:Kt t x
   ·
    by_cases hy:Kt t y
    · exact VV (λe=>h (I9 hy hx e))
    · exact Vb (VV hy)
   · exact Vb (Vb hx)
  · exact Vb (Vb h)
  · exact Vb (VV h)
 have hle:(LL.mergeSort le).Pairwise (λp q=>le p q=true∨¬Kt t p.x∨¬Kt t q.x):=by
  -- a sort by an order that is one on the rows of the list
  have hs:(LL.attach.mergeSort (λa b=>le a.1 b.1)).Pairwise (λa b=>le a.1 b.1=true):=by
   refine List.pairwise_mergeSort (λa b c h1 h2=>?_) (λa b=>?_) _
   · rw [hK.le _ _ (hP _ a.2) (hP _ b.2)] at h1;rw [hK.le _ _ (hP _ b.2) (hP _ c.2)] at h2;rw [hK.le _ _ (hP _ a.2) (hP _ c.2)];exact Em (hP _ a.2) (hP _ b.2) (hP _ c.2) h1 h2
   · rw [Bool.or_eq_true,hK.le _ _ (hP _ a.2) (hP _ b.2),hK.le _ _ (hP _ b.2) (hP _ a.2)];have:=F6 (hP _ a.2) (hP _ b.2);omega
  have hm:(LL.attach.mergeSort (λa b=>le a.1 b.1)).map Subtype.val=LL.mergeSort le:=by
   rw [List.map_mergeSort (s:=le) (λa _ b _=>rfl),List.attach_map_subtype_val]
  rw [←hm,List.pairwise_map];exact hs.imp (λh=>VV h)
 refine Pm hPS hpy ?_ hY;rw [List.pairwise_map] at hne ⊢;refine(hle.and hne).imp_of_mem (λ{p q} hp hq h=>?_);have hx:=hPm p hp;have hy:=hPm q hq;obtain⟨h1,h2⟩:=h;have h1':=(hK.le _ _ hx hy).1 (by rcases h1 with h | h | h;exact h;exact absurd hx h;exact absurd hy h);have h2':Ao p.x q.x≠0:=by rcases h2 with h | h | h;exact h;exact absurd hx h;exact absurd hy h
 omega
def CN(r:Nat)(m:Nat->Nat)(R:Nat->Nat->Itm):List Rw:=(List.range r).map (λi=>(m i,R i))
theorem Cf(r:Nat)(m:Nat->Nat)(R:Nat->Nat->Itm):(CN r m R).length=r:=by simp [CN]
theorem G1(r:Nat)(m:Nat->Nat)(R:Nat->Nat->Itm):CN (r+1) m R=CN r m R ++ [(m r,R r)]:=by unfold CN;rw [List.range_succ,List.map_append];rfl
theorem Ce{r:Nat}{m:Nat->Nat}{R:Nat->Nat->Itm}{x:Rw}(h:x∈CN r m R):∃ i,i<r/\x=(m i,R i):=by
 obtain⟨i,hi,rfl⟩:=List.mem_map.1 h;exact⟨i,List.mem_range.1 hi,rfl⟩
structure Sd(t:Int)(r:Nat)(m:Nat->Nat)(R:Nat->Nat->Itm):Prop where
 kt:∀ i,i<r->Kt t (m i,R i)
 lt:∀ i j,i<j->j<r->Ao (m i,R i) (m j,R j)<0
theorem Sd.pw{t:Int}{r:Nat}{m:Nat->Nat}{R:Nat->Nat->Itm}(h:Sd t r m R):(CN r m R).Pairwise (λx y=>Ao x y<0):=by
 unfold CN;rw [List.pairwise_map];exact List.Pairwise.imp_of_mem (R:=λi j=>i<j) (λ{i j} hi hj hij=>h.lt i j hij (List.mem_range.1 hj)) List.pairwise_lt_range
theorem Sd.all{t:Int}{r:Nat}{m:Nat->Nat}{R:Nat->Nat->Itm}(h:Sd t r m R):∀ x∈CN r m R,Kt t x:=λx hx=>by
 obtain⟨i,hi,rfl⟩:=Ce hx;exact h.kt i hi
theorem Sd.of{d:Td}(h:Br d=true):Sd (d.C 0).t d.r d.m d.R:=by
 have hg:=Dt h;obtain⟨-,hn,-,-,-,h6⟩:=CF h;have hkt:∀ i,i<d.r->Kt (d.C 0).t (d.m i,d.R i):=λi hi=>⟨(hg i hi 0 hn).2.1,(hg i hi 0 hn).2.2⟩;refine⟨hkt,λi j hij=>?_⟩;obtain⟨k,rfl⟩:∃ k,j=i+1+k:=⟨j - (i+1),by omega⟩;have step:∀ q,q+1<d.r->Ao (d.m q,d.R q) (d.m (q+1),d.R (q+1))<0:=λq hq=>by
  have z:=h6 (q+1) hq;unfold A5 at z;simp only [VO,Bool.or_eq_true,decide_eq_true_eq] at z
  rcases z.2 with z | z
  · omega
  ·
   unfold Ao BH;rw [show q+1 - 1=q from rfl] at z
   rw [if_pos z];omega
 induction k with
 | zero=>intro hj;exact step i hj
 | succ k ih=>
  intro hj;exact Fl (hkt i (by omega)) (hkt (i+1+k) (by omega)) (hkt _ hj) (ih (by omega) (by omega)) (step (i+1+k) hj)
def NK(key:Rw->Lit)(L:List Ro):Prop:=L.Pairwise (λp q=>(key p.x).sameKey (key q.x)=false)
theorem Ht{key:Rw->Lit}:∀ {L' A:List Ro},NK key A->(((As key A L').1=true↔NK key (A ++ L'))/\((As key A L').1=true->(As key A L').2=A ++ L'))
 | [],A,h=>by simp [As,h]
 | r :: L',A,h=>by
  unfold As;rcases hh:Cq key A (key r.x) with _ | _
  ·
   have hA:NK key (A ++ [r]):=by
    unfold NK;rw [List.pairwise_append];refine⟨h,List.pairwise_singleton _ _,λp hp q hq=>?_⟩;rw [List.mem_singleton] at hq;subst hq;have:=List.any_eq_false.1 hh p hp;simpa using this
   have:=Ht (key:=key) (L':=L') hA;simp only [Bool.false_eq_true,if_false]
   rw [List.append_assoc,List.singleton_append] at this;exact this
  ·
   simp only [if_true,Bool.false_eq_true,false_iff]
   refine⟨λhN=>?_,λh=>h.elim⟩;obtain⟨p,hp,hs⟩:=List.any_eq_true.1 hh;have:=(List.pairwise_append.1 hN).2.2 p hp r List.mem_cons_self;rw [hs] at this;cases this
theorem JP{key:Rw->Lit}:∀ {X:List Rw} {L:List Ro},Au key L X=L.filter (λq=>X.all (λx=>!(key q.x).sameKey (key x)))
 | [],L=>by simp only [Au,List.all_nil];exact(List.filter_eq_self.2 (λ_ _=>rfl)).symm
 | x :: X,L=>by
  rw [Au,JP (X:=X)];unfold IB;rw [List.filter_filter];congr 1
  funext q
  rw [List.all_cons,Bool.and_comm]
theorem NK.of{t:Int}{key:Rw->Lit}{le:Ro->Ro->Bool}(hK:KeyW t key le){L:List Ro}(hP:∀ r∈L,Kt t r.x)(h:(L.map Ro.x).Pairwise (λx y=>Ao x y≠0)):NK key L:=by
 rw [List.pairwise_map] at h;refine h.imp_of_mem (λ{p q} hp hq hne=>?_);rcases hs:(key p.x).sameKey (key q.x) with _ | _
 · rfl
 · exact absurd ((hK.same _ _ (hP p hp) (hP q hq)).1 hs) hne
theorem NK.to{t:Int}{key:Rw->Lit}{le:Ro->Ro->Bool}(hK:KeyW t key le){L:List Ro}(hP:∀ r∈L,Kt t r.x)(h:NK key L):(L.map Ro.x).Pairwise (λx y=>Ao x y≠0):=by
 rw [List.pairwise_map];refine h.imp_of_mem (λ{p q} hp hq hne e=>?_);rw [(hK.same _ _ (hP p hp) (hP q hq)).2 e] at hne;cases hne
theorem F5{t:Int}{L:List Ro}{r:Nat}{m:Nat->Nat}{R:Nat->Nat->Itm}(hS:Sd t r m R)(hL:L.map Ro.x=CN r m R):∀ q∈L,Kt t q.x:=λq hq=>hS.all _ (by rw [←hL];exact List.mem_map_of_mem hq)
theorem C3{t:Int}{key:Rw->Lit}{le:Ro->Ro->Bool}(hK:KeyW t key le){L:List Ro}{r:Nat}{m:Nat->Nat}{R:Nat->Nat->Itm}(hS:Sd t r m R)(hL:L.map Ro.x=CN r m R):As key [] L=(true,L):=by
 have hN:NK key L:=NK.of hK (F5 hS hL) (by rw [hL];exact hS.pw.imp (λh=>by omega));have h:=Ht (key:=key) (L':=L) (A:=[]) List.Pairwise.nil;have h1:=h.1.2 hN;exact Prod.ext h1 (h.2 h1)
theorem Is{t:Int}{r:Nat}{m:Nat->Nat}{R:Nat->Nat->Itm}(hS:Sd t r m R){x:Rw}(hx:Kt t x):∀ {k},k<=r->(∀ i,i<A0 R (x.2 0).m (x.2 0).s k->Ao (m i,R i) x<0)/\(A0 R (x.2 0).m (x.2 0).s k<k->¬Ao (m (A0 R (x.2 0).m (x.2 0).s k),R (A0 R (x.2 0).m (x.2 0).s k)) x<0)
 | 0,_=>by simp [A0]
 | k+1,hk=>by
  obtain⟨h1,h2⟩:=Is hS hx (k:=k) (by omega);have hle:=Dc (R:=R) (m:=(x.2 0).m) (s:=(x.2 0).s) (r:=k);rw [A0];split
  ·
   rename_i hc
   refine⟨λi hi=>?_,λh=>by omega⟩;by_cases e:i=k
   · subst e;exact hc.2
   · exact h1 i (by rw [hc.1];omega)
  ·
   rename_i hc
   refine⟨h1,λ_=>?_⟩;by_cases e:A0 R (x.2 0).m (x.2 0).s k=k
   · intro h;rw [e] at h;exact hc ⟨e,h⟩
   · exact h2 (by omega)
theorem Gk{t:Int}{key:Rw->Lit}{le:Ro->Ro->Bool}(hK:KeyW t key le){L:List Ro}{r:Nat}{m:Nat->Nat}{R:Nat->Nat->Itm}(hS:Sd t r m R)(hL:L.map Ro.x=CN r m R){x:Rw}(hx:Kt t x):Cq key L (key x)=true↔∃ i,i<r/\Ao (m i,R i) x=0:=by
 unfold Cq;rw [List.any_eq_true];constructor
 ·
  rintro ⟨q,hq,hs⟩;have h1:=(hK.same _ _ (F5 hS hL q hq) hx).1 hs;have h2:q.x∈CN r m R:=by rw [←hL];exact List.mem_map_of_mem hq
  obtain⟨i,hi,e⟩:=Ce h2;exact⟨i,hi,by rw [←e];exact h1⟩
 ·
  rintro ⟨i,hi,h⟩;have h2:(m i,R i)∈L.map Ro.x:=by rw [hL];exact List.mem_map.2 ⟨i,List.mem_range.2 hi,rfl⟩
  obtain⟨q,hq,e⟩:=List.mem_map.1 h2;refine⟨q,hq,(hK.same _ _ (F5 hS hL q hq) hx).2 ?_⟩;rw [e];exact h
theorem L2{t:Int}{r:Nat}{m:Nat->Nat}{R:Nat->Nat->Itm}(hS:Sd t r m R){x:Rw}(hx:Kt t x):(∃ i,i<r/\Ao (m i,R i) x=0)↔(A0 R (x.2 0).m (x.2 0).s r<r/\BH (R (A0 R (x.2 0).m (x.2 0).s r) 0).m (R (A0 R (x.2 0).m (x.2 0).s r) 0).s (x.2 0).m (x.2 0).s=0):=by
 obtain⟨h1,h2⟩:=Is hS hx (VD r);have hle:=Dc (R:=R) (m:=(x.2 0).m) (s:=(x.2 0).s) (r:=r);generalize A0 R (x.2 0).m (x.2 0).s r=p at h1 h2 hle ⊢;constructor
 ·
  rintro ⟨i,hi,h⟩;have hpi:p<=i:=by
   rcases Nat.lt_or_ge i p with z | z
   · have:=h1 i z;omega
   · exact z
  by_cases e:p=i
  · subst e;exact⟨hi,h⟩
  · have h3:=hS.lt p i (by omega) hi;rw [(Fm (z:=(m p,R p)) (hS.kt i hi) hx h).2] at h3;exact absurd h3 (h2 (by omega))
 · rintro ⟨hp,h⟩;exact⟨p,hp,h⟩
theorem IU{r:Nat}{m:Nat->Nat}{R:Nat->Nat->Itm}{x:Rw}{p:Nat}(hp:p<=r):(List.range (r+1)).map (Cb m R x p)=(CN r m R).take p ++ x :: (CN r m R).drop p:=by
 apply List.ext_getElem?
 intro i;rw [List.getElem?_map];have hlt:((CN r m R).take p).length=p:=by rw [VY,Cf];omega
 by_cases hi:i<r+1
 ·
  rw [List.getElem?_range hi,Option.map_some];unfold Cb;by_cases h1:i<p
  · rw [if_pos h1,List.getElem?_append_left (by omega),List.getElem?_take,if_pos h1];simp [CN,show i<r by omega]
  ·
   by_cases h2:i=p
   · subst h2;rw [if_neg (by omega),if_pos rfl,List.getElem?_append_right (by omega),hlt];simp
   ·
    rw [if_neg h1,if_neg h2,List.getElem?_append_right (by omega),hlt,show i - p=i - p - 1+1 from by omega,List.getElem?_cons_succ,List.getElem?_drop,show p+(i - p - 1)=i - 1 from by omega]
    simp [CN,show i - 1<r by omega]
 · rw [List.getElem?_eq_none (by simp;omega),List.getElem?_eq_none (by simp [Cf];omega)];rfl
theorem Jy{t:Int}{key:Rw->Lit}{le:Ro->Ro->Bool}(hK:KeyW t key le){L:List Ro}{r:Nat}{m:Nat->Nat}{R:Nat->Nat->Itm}(hS:Sd t r m R)(hL:L.map Ro.x=CN r m R){q:Ro}(hx:Kt t q.x)(hno:¬∃ i,i<r/\Ao (m i,R i) q.x=0):((L ++ [q]).mergeSort le).map Ro.x=(List.range (r+1)).map (Cb m R q.x (A0 R (q.x.2 0).m (q.x.2 0).s r)):=by
 obtain⟨h1,h2⟩:=Is hS hx (VD r);have hle:=Dc (R:=R) (m:=(q.x.2 0).m) (s:=(q.x.2 0).s) (r:=r);generalize A0 R (q.x.2 0).m (q.x.2 0).s r=p at h1 h2 hle ⊢;rw [IU hle];refine EG hK (λz hz=>?_) ?_ ?_
 ·
  rcases List.mem_append.1 hz with h | h
  · exact F5 hS hL z h
  · rw [List.mem_singleton] at h;subst h;exact hx
 · rw [List.map_append,hL,List.map_singleton];refine(List.perm_append_singleton _ _).trans ?_;have:=List.perm_middle (a:=q.x) (l₁:=(CN r m R).take p) (l₂:=(CN r m R).drop p);rw [List.take_append_drop] at this;exact this.symm
 ·
  have hpw:=hS.pw;rw [←List.take_append_drop p (CN r m R),List.pairwise_append] at hpw;rw [List.pairwise_append];refine⟨hpw.1,?_,λa ha b hb=>?_⟩
  ·
   rw [List.pairwise_cons];refine⟨λb hb=>?_,hpw.2.1⟩;obtain⟨i,hi⟩:=List.getElem?_of_mem hb;rw [List.getElem?_drop] at hi;have hir:p+i<r:=by
    have:=(List.getElem?_eq_some_iff.1 hi).1;rwa [Cf] at this
   have e:b=(m (p+i),R (p+i)):=by
    simp [CN,hir] at hi
    exact hi.symm
   subst e;have h3:¬Ao (m (p+i),R (p+i)) q.x<0:=λz=>by
    by_cases e0:i=0
    · subst e0;exact h2 (by omega) z
    · exact h2 (by omega) (Fl (hS.kt p (by omega)) (hS.kt _ hir) hx (hS.lt p (p+i) (by omega) hir) z)
   have h4:¬Ao (m (p+i),R (p+i)) q.x=0:=λz=>hno ⟨_,hir,z⟩;have:=F6 (hS.kt _ hir) hx;omega
  ·
   rcases List.mem_cons.1 hb with h | h
   ·
    subst h;obtain⟨i,hi⟩:=List.getElem?_of_mem ha;rw [List.getElem?_take] at hi;split at hi
    ·
     rename_i hip
     have e:a=(m i,R i):=by
      simp [CN,show i<r by omega] at hi
      exact hi.symm
     subst e;exact h1 i hip
    · cases hi
   · exact hpw.2.2 a ha b h
theorem He(C:Nat->Clm)(n:Nat)(m:Nat->Nat)(R:Nat->Nat->Itm)(W:Nat->Itm)(n6:Nat):∀ k,C4 C n m R W n6 k=(CN k m R).filter (λx=>Bp C n x.2 W n6)
 | 0=>rfl
 | k+1=>by
  rw [C4,He C n m R W n6 k,G1,List.filter_append];rcases hf:Bp C n (R k) W n6 with _ | _ <;> simp [Eb,hf]
theorem FN(C:Nat->Clm)(n:Nat)(m:Nat->Nat)(R:Nat->Nat->Itm)(W:Nat->Itm)(n6:Nat):∀ k,F1 C n m R W n6 k=(CN k m R).filter (λx=>!Bp C n x.2 W n6)
 | 0=>rfl
 | k+1=>by
  rw [F1,FN C n m R W n6 k,G1,List.filter_append];rcases hf:Bp C n (R k) W n6 with _ | _ <;> simp [Eb,hf]
theorem Hn(C:Nat->Clm)(n:Nat)(m:Nat->Nat)(R:Nat->Nat->Itm)(q:Nat)(E:Nat->Itm)(n5:Nat)(W:Nat->Itm)(n6:Nat):∀ k,JS C n m R q E n5 W n6 k=(CN k m R).map (λx=>if Bp C n x.2 W n6=true then Ed C n q E n5 x else x)
 | 0=>rfl
 | k+1=>by
  rw [JS,Hn C n m R q E n5 W n6 k,G1,List.map_append];congr 1
  simp only [List.map_cons,List.map_nil]
  split <;> rfl
theorem Fz(C:Nat->Clm)(n:Nat)(m:Nat->Nat)(R:Nat->Nat->Itm)(E:Nat->Itm)(n5:Nat)(W:Nat->Itm)(n6:Nat):∀ k,DY C n R E n5 W n6 k=(C4 C n m R W n6 k).any (Ho C n E n5)
 | 0=>rfl
 | k+1=>by
  rw [DY,Fz C n m R E n5 W n6 k,C4,List.any_append];unfold Eb;cases Bp C n (R k) W n6 <;> simp [Ho]
theorem N3{t:Int}{r:Nat}{m:Nat->Nat}{R:Nat->Nat->Itm}(hS:Sd t r m R){x y:Rw}(hx:x∈CN r m R)(hy:y∈CN r m R)(h:Ao x y=0):x=y:=by
 obtain⟨i,hi,rfl⟩:=Ce hx;obtain⟨j,hj,rfl⟩:=Ce hy;rcases Nat.lt_trichotomy i j with z | z | z
 · have:=hS.lt i j z hj;omega
 · subst z;rfl
 · have:=hS.lt j i z hi;have:=I9 (hS.kt i hi) (hS.kt j hj) h;omega
theorem L9{t:Int}{key:Rw->Lit}{le:Ro->Ro->Bool}(hK:KeyW t key le){L:List Ro}{r:Nat}{m:Nat->Nat}{R:Nat->Nat->Itm}(hS:Sd t r m R)(hL:L.map Ro.x=CN r m R)(f:Rw->Bool):(Au key L ((CN r m R).filter f)).map Ro.x=(CN r m R).filter (λx=>!f x):=by
 rw [JP];conv=>rhs;rw [←hL,List.filter_map]
 congr 1
 refine List.filter_congr (λq hq=>?_);have hqm:q.x∈CN r m R:=by rw [←hL];exact List.mem_map_of_mem hq
 show _=!f q.x
 rcases hf:f q.x with _ | _
 ·
  rw [List.all_eq_true.2]
  · rfl
  ·
   intro x hx;rw [List.mem_filter] at hx;rcases hs:(key q.x).sameKey (key x) with _ | _
   · rfl
   · have:=N3 hS hqm hx.1 ((hK.same _ _ (hS.all _ hqm) (hS.all _ hx.1)).1 hs);rw [this] at hf;rw [hf] at hx;cases hx.2
 · rw [List.all_eq_false.2 ⟨q.x,List.mem_filter.2 ⟨hqm,hf⟩,by rw [(hK.same _ _ (hS.all _ hqm) (hS.all _ hqm)).2 (Pn (hS.all _ hqm))];simp⟩];rfl
theorem KV{t:Int}{key:Rw->Lit}{le:Ro->Ro->Bool}(hK:KeyW t key le){L:List Ro}{r:Nat}{m:Nat->Nat}{R:Nat->Nat->Itm}(hS:Sd t r m R)(hL:L.map Ro.x=CN r m R)(C:Nat->Clm)(n:Nat)(W:Nat->Itm)(n6:Nat):((Au key L (C4 C n m R W n6 r)).mergeSort le).map Ro.x=F1 C n m R W n6 r:=by
 have hm:=L9 hK hS hL (λx=>Bp C n x.2 W n6);rw [He,FN];refine EG hK (λq hq=>?_) (by rw [hm]) (hS.pw.filter _);have:q.x∈(Au key L ((CN r m R).filter (λx=>Bp C n x.2 W n6))).map Ro.x:=List.mem_map_of_mem hq;rw [hm] at this;exact hS.all _ (List.mem_filter.1 this).1
theorem Ia{t:Int}{key:Rw->Lit}{le:Ro->Ro->Bool}(hK:KeyW t key le){L:List Ro}{r:Nat}{m:Nat->Nat}{R:Nat->Nat->Itm}(hS:Sd t r m R)(hL:L.map Ro.x=CN r m R):(L.mergeSort le).map Ro.x=CN r m R:=
 EG hK (F5 hS hL) (by rw [hL]) hS.pw
theorem Cg:∀ (s:Nat) (a b:List Rw),a.length+b.length=s->(Ec s a b).Perm (a ++ b)
 | 0,a,b,h=>by
  obtain rfl:a=[]:=List.eq_nil_of_length_eq_zero (by omega);obtain rfl:b=[]:=List.eq_nil_of_length_eq_zero (by simpa using h);exact List.Perm.refl _
 | _+1,[],[],h=>by simp at h
 | s+1,x :: a,[],h=>by
  rw [Ec];exact(Cg s a [] (by simp at h ⊢;omega)).cons x
 | s+1,[],y :: b,h=>by
  rw [Ec];exact(Cg s [] b (by simp at h ⊢;omega)).cons y
 | s+1,x :: a,y :: b,h=>by
  rw [Ec];split
  · exact(Cg s a (y :: b) (by simp at h ⊢;omega)).cons x
  · refine((Cg s (x :: a) b (by simp at h ⊢;omega)).cons y).trans ?_;exact(List.perm_middle (a:=y) (l₁:=x :: a) (l₂:=b)).symm
theorem DO{t:Int}:∀ (s:Nat) (a b:List Rw),a.length+b.length=s->(∀ x∈a,Kt t x)->(∀ x∈b,Kt t x)->a.Pairwise (λx y=>Ao x y<=0)->b.Pairwise (λx y=>Ao x y<=0)->(Ec s a b).Pairwise (λx y=>Ao x y<=0)
 | 0,_,_,_,_,_,_,_=>List.Pairwise.nil
 | _+1,[],[],_,_,_,_,_=>List.Pairwise.nil
 | s+1,x :: a,[],h,ha,hb,pa,pb=>by
  rw [Ec,List.pairwise_cons];rw [List.pairwise_cons] at pa;have hp:=Cg s a [] (by simp at h ⊢;omega);refine⟨λz hz=>pa.1 z (by have:=hp.mem_iff.1 hz;simpa using this),DO s a [] (by simp at h ⊢;omega) (λz hz=>ha z (List.mem_cons_of_mem _ hz)) hb pa.2 pb⟩
 | s+1,[],y :: b,h,ha,hb,pa,pb=>by
  rw [Ec,List.pairwise_cons];rw [List.pairwise_cons] at pb;have hp:=Cg s [] b (by simp at h ⊢;omega);refine⟨λz hz=>pb.1 z (by have:=hp.mem_iff.1 hz;simpa using this),DO s [] b (by simp at h ⊢;omega) ha (λz hz=>hb z (List.mem_cons_of_mem _ hz)) pa pb.2⟩
 | s+1,x :: a,y :: b,h,ha,hb,pa,pb=>by
  have hx:=ha x List.mem_cons_self;have hy:=hb y List.mem_cons_self;have pa':=List.pairwise_cons.1 pa;have pb':=List.pairwise_cons.1 pb;rw [Ec];split
  ·
   rename_i hle
   rw [List.pairwise_cons];have hp:=Cg s a (y :: b) (by simp at h ⊢;omega);refine⟨λz hz=>?_,DO s a (y :: b) (by simp at h ⊢;omega) (λz hz=>ha z (List.mem_cons_of_mem _ hz)) hb pa'.2 pb⟩;rcases List.mem_append.1 (hp.mem_iff.1 hz) with h | h
   · exact pa'.1 z h
   ·
    rcases List.mem_cons.1 h with h | h
    · subst h;exact hle
    · exact Em hx hy (hb z (List.mem_cons_of_mem _ h)) hle (pb'.1 z h)
  ·
   rename_i hgt
   rw [List.pairwise_cons];have hp:=Cg s (x :: a) b (by simp at h ⊢;omega);have hyx:Ao y x<=0:=by have:=F6 hx hy;omega
   refine⟨λz hz=>?_,DO s (x :: a) b (by simp at h ⊢;omega) ha (λz hz=>hb z (List.mem_cons_of_mem _ hz)) pa pb'.2⟩;rcases List.mem_append.1 (hp.mem_iff.1 hz) with h | h
   ·
    rcases List.mem_cons.1 h with h | h
    · subst h;exact hyx
    · exact Em hy hx (ha z (List.mem_cons_of_mem _ h)) hyx (pa'.1 z h)
   · exact pb'.1 z h
theorem Cy:∀ (f:Nat) (L:List Rw),(Hu f L).Perm L
 | 0,_=>List.Perm.refl _
 | f+1,L=>by
  rw [Hu];split
  · exact List.Perm.refl _
  ·
   have h1:=Cy f (L.take (L.length / 2));have h2:=Cy f (L.drop (L.length / 2));refine(Cg _ _ _ ?_).trans ?_
   · rw [Ct,Ct,VY,List.length_drop];omega
   · exact(h1.append h2).trans (by rw [List.take_append_drop])
theorem EF{t:Int}:∀ (f:Nat) (L:List Rw),L.length<=f+1->(∀ x∈L,Kt t x)->(Hu f L).Pairwise (λx y=>Ao x y<=0)
 | 0,L,h,_=>by
  rw [Hu];match L,h with
  | [],_=>exact List.Pairwise.nil
  | [x],_=>exact List.pairwise_singleton _ _
 | f+1,L,h,hP=>by
  rw [Hu];split
  ·
   rename_i h2
   match L,h2 with
   | [],_=>exact List.Pairwise.nil
   | [x],_=>exact List.pairwise_singleton _ _
  ·
   rename_i h2
   refine DO _ _ _ (by rw [Ct,Ct,VY,List.length_drop];omega) (λx hx=>hP x (List.mem_of_mem_take ((Cy f _).mem_iff.1 hx))) (λx hx=>hP x (List.mem_of_mem_drop ((Cy f _).mem_iff.1 hx))) ?_ ?_
   · exact EF f _ (by rw [VY];omega) (λx hx=>hP x (List.mem_of_mem_take hx))
   · exact EF f _ (by rw [List.length_drop];omega) (λx hx=>hP x (List.mem_of_mem_drop hx))
theorem Id{A:List Rw}:∀ {k:Nat},Cc A k=false->∀ i,i+1<k->Ao (A.getD i r0) (A.getD (i+1) r0)≠0
 | 0,_,i,hi=>by omega
 | k+1,h,i,hi=>by
  rw [Cc,Bool.or_eq_false_iff] at h;by_cases e:i+1=k
  ·
   subst e;have:=h.2;simp at this
   exact this
  · exact Id h.1 i (by omega)
theorem KT{A:List Rw}:∀ {k:Nat},Cc A k=true->∃ i,i+1<k/\Ao (A.getD i r0) (A.getD (i+1) r0)=0
 | 0,h=>by cases h
 | k+1,h=>by
  rw [Cc,Bool.or_eq_true] at h;rcases h with h | h
  · obtain⟨i,hi,e⟩:=KT h;exact⟨i,by omega,e⟩
  ·
   simp only [VO,decide_eq_true_eq] at h
   exact⟨k - 1,by omega,by rw [show k - 1+1=k from by omega];exact h.2⟩
theorem AaC{t:Int}{A:List Rw}(hP:∀ x∈A,Kt t x)(hs:A.Pairwise (λx y=>Ao x y<=0)):Cc A A.length=false↔A.Pairwise (λx y=>Ao x y<0):=by
 have hg:∀ i,i<A.length->A.getD i r0∈A:=λi hi=>Ae hi;have hle:∀ i j,i<j->j<A.length->Ao (A.getD i r0) (A.getD j r0)<=0:=λi j hij hj=>by
  have:=List.pairwise_iff_getElem.1 hs i j (by omega) hj hij;simpa [show i<A.length by omega,hj] using this
 constructor
 ·
  intro hd;rw [List.pairwise_iff_getElem];intro i j hi hj hij;have h1:=Id hd i (by omega);have h2:=hle i (i+1) (by omega) (by omega);have goal:Ao (A.getD i r0) (A.getD j r0)<0:=by
   by_cases e:j=i+1
   · subst e;omega
   ·
    have h3:=hle (i+1) j (by omega) hj;have h4:=hle i j hij hj;have h5:Ao (A.getD i r0) (A.getD j r0)≠0:=λz=>by
     have a:=hP _ (hg i hi);have b:=hP _ (hg (i+1) (by omega));have c:=hP _ (hg j hj);rw [(Fm (z:=A.getD (i+1) r0) a c z).1] at h2 h1;have:=F6 b c;omega
    omega
  simpa [hi,hj] using goal
 ·
  intro hp;rcases hd:Cc A A.length with _ | _
  · rfl
  ·
   obtain⟨i,hi,e⟩:=KT hd;have:=List.pairwise_iff_getElem.1 hp i (i+1) (by omega) hi (by omega);simp [show i<A.length by omega,hi] at e this
   omega
theorem Gv(f:Rw->Bool)(g:Rw->Rw):∀ X:List Rw,(X.filter (λx=>!f x) ++ (X.filter f).map g).Perm (X.map (λx=>if f x=true then g x else x))
 | []=>List.Perm.refl _
 | x :: X=>by
  have ih:=Gv f g X;rcases h:f x with _ | _
  ·
   simp only [List.filter_cons,h,Bool.not_false,if_true,Bool.false_eq_true,if_false,List.cons_append,List.map_cons]
   exact ih.cons x
  ·
   simp only [List.filter_cons,h,Bool.not_true,Bool.false_eq_true,if_false,if_true,List.map_cons]
   exact(List.perm_middle).trans (ih.cons _)
theorem LV{t:Int}{key:Rw->Lit}{le:Ro->Ro->Bool}(hK:KeyW t key le){L Cs:List Ro}{r:Nat}{m:Nat->Nat}{R:Nat->Nat->Itm}(hS:Sd t r m R)(hL:L.map Ro.x=CN r m R)(C:Nat->Clm)(n q:Nat)(E:Nat->Itm)(n5:Nat)(W:Nat->Itm)(n6:Nat)(hf:∀ x∈C4 C n m R W n6 r,Kt t (Ed C n q E n5 x))(hC:Cs.map Ro.x=(C4 C n m R W n6 r).map (Ed C n q E n5)) :
 ((As key (Au key L (C4 C n m R W n6 r)) Cs).1=true↔Cc (Av n C r m R q E n5 W n6) r=false)/\((As key (Au key L (C4 C n m R W n6 r)) Cs).1=true->((As key (Au key L (C4 C n m R W n6 r)) Cs).2.mergeSort le).map Ro.x=Av n C r m R q E n5 W n6):=by
 have hm:=L9 hK hS hL (λx=>Bp C n x.2 W n6);rw [←He] at hm;have hPd:∀ p∈Au key L (C4 C n m R W n6 r),Kt t p.x:=λp hp=>F5 hS hL p (Bd hp);have hPc:∀ p∈Cs,Kt t p.x:=λp hp=>by
  have:p.x∈Cs.map Ro.x:=List.mem_map_of_mem hp;rw [hC] at this;obtain⟨x,hx,e⟩:=List.mem_map.1 this;rw [←e];exact hf x hx
 have hPa:∀ p∈Au key L (C4 C n m R W n6 r) ++ Cs,Kt t p.x:=λp hp=>by
  rcases List.mem_append.1 hp with h | h
  · exact hPd p h
  · exact hPc p h
 have hND:NK key (Au key L (C4 C n m R W n6 r)):=NK.of hK hPd (by rw [hm];exact(hS.pw.filter _).imp (λh=>by omega));have hadd:=Ht (key:=key) (L':=Cs) hND;have hlen:(Av n C r m R q E n5 W n6).length=r:=by unfold Av;rw [Ct,Fx]
 have hperm:((Au key L (C4 C n m R W n6 r) ++ Cs).map Ro.x).Perm (Av n C r m R q E n5 W n6):=by
  refine List.Perm.trans ?_ (Cy _ _).symm;rw [List.map_append,hm,hC,Hn,He];exact Gv _ _ _
 have hPu:∀ x∈Av n C r m R q E n5 W n6,Kt t x:=λx hx=>by
  obtain⟨p,hp,rfl⟩:=List.mem_map.1 (hperm.mem_iff.2 hx);exact hPa p hp
 have hsrt:(Av n C r m R q E n5 W n6).Pairwise (λx y=>Ao x y<=0):=EF r _ (by rw [Fx];omega) (λx hx=>hPu x ((Cy _ _).mem_iff.2 hx));have hst:=AaC hPu hsrt;rw [hlen] at hst;have hiff:NK key (Au key L (C4 C n m R W n6 r) ++ Cs)↔(Av n C r m R q E n5 W n6).Pairwise (λx y=>Ao x y<0):=by
  have hsy:∀ {x y:Rw},(Ao x y≠0∨¬Kt t x∨¬Kt t y)->(Ao y x≠0∨¬Kt t y∨¬Kt t x):=λ{x y} h=>by
   rcases h with h | h | h
   ·
    by_cases hx:Kt t x
    ·
     by_cases hy:Kt t y
     · exact VV (λe=>h (I9 hy hx e))
     · exact Vb (VV hy)
    · exact Vb (Vb hx)
   · exact Vb (Vb h)
   · exact Vb (VV h)
  constructor
  ·
   intro hN;have h1:=(hN.to hK hPa).imp (S:=λx y=>Ao x y≠0∨¬Kt t x∨¬Kt t y) (λh=>VV h);have h2:=(hperm.pairwise_iff hsy).1 h1;refine(hsrt.and h2).imp_of_mem (λ{x y} hx hy h=>?_);obtain⟨a,b⟩:=h;have:Ao x y≠0:=by rcases b with b | b | b;exact b;exact absurd (hPu x hx) b;exact absurd (hPu y hy) b
   omega
  ·
   intro hp;have h1:(Av n C r m R q E n5 W n6).Pairwise (λx y=>Ao x y≠0∨¬Kt t x∨¬Kt t y):=hp.imp (λh=>VV (by omega));have h2:=(hperm.pairwise_iff hsy).2 h1;refine NK.of hK hPa (h2.imp_of_mem (λ{x y} hx hy h=>?_));have kx:Kt t x:=hPu x (hperm.mem_iff.1 hx);have ky:Kt t y:=hPu y (hperm.mem_iff.1 hy);rcases h with h | h | h
   · exact h
   · exact absurd kx h
   · exact absurd ky h
 refine⟨hadd.1.trans (hiff.trans hst.symm),λh=>?_⟩;rw [hadd.2 h];exact EG hK hPa hperm (hiff.1 (hadd.1.1 h))
set_option maxRecDepth 20000
set_option maxHeartbeats 8000000
def rg(z:Int):Prop:=(Lit.int .i64 z).wf=true
def LR(L0:List Ro)(rows:List Rw)(cd:Int)(w:ο)(e:Ending)(w':ο):Prop:=∃ (g c:Nat) (S:List Ro),e=ρ (θ #[σ (ς ⟨g,0,ν⟩) S.length c,ι κ cd])/\(cd=0->S.map Ro.x=rows)/\(∃ cur,w'.heap[g]?=ς (γ cur 30 (0,0))/\∀ j,j<S.length->cur[j]?=ς (S.getD j o0).v)/\w.heap.size<=g/\g<w'.heap.size/\(∀ r∈S,RoAt w' r/\(r∈L0∨w.heap.size<=r.b)/\r.b≠g/\r.b<w'.heap.size)/\(cd=0->(S.map Ro.b).Nodup)/\υ w.heap.size w w'
theorem RoAt.lt{w:ο}{r:Ro}(h:RoAt w r):r.b<w.heap.size:=by
 obtain⟨⟨cur,h1,-⟩,-⟩:=h;exact(VL.1 h1).1
theorem TdA.ch{le:Ro->Ro->Bool}{LL L0:List Ro}{rows:List Rw}{cd:Int}{w0 w:ο}{e:Ending}{w':ο}(h:TdA le LL cd w e w')(hb:υ w0.heap.size w0 w)(h1:∀ r∈LL,r∈L0∨w0.heap.size<=r.b)(h2:cd=0->(LL.map Ro.b).Nodup)(h3:cd=0->(LL.mergeSort le).map Ro.x=rows):LR L0 rows cd w0 e w':=by
 obtain⟨g,c,he,hO,hr,hbb⟩:=h;have hp:=List.mergeSort_perm LL le;have hl:(LL.mergeSort le).length=LL.length:=List.length_mergeSort LL;have hg:=World.ownsRow.lt hO g rfl;have hs:=hb.size;obtain⟨-,h | ⟨g',cap',cur,e',-,c1,c2,-,c3,c4⟩⟩:=hO
 · cases h.1
 injection e' with e1 e2 e3;injection e1 with e1;injection e1 with e1;subst e1;refine⟨g,c,LL.mergeSort le,by rw [hl];exact he,h3,⟨cur,c1,λj hj=>?_⟩,by omega,hg.2,λr hm=>?_,λhc=>?_,AA hb hbb⟩
 ·
  have hj2:j<LL.length:=by omega
  have z:=congrArg (λl=>l[j]?) c4;simp only [Nat.mul_one,List.getElem?_take,if_pos hj2,List.getElem?_map,Array.getElem?_toList] at z
  rw [z];have:(LL.mergeSort le)[j]?=ς ((LL.mergeSort le).getD j o0):=by rw [List.getD_eq_getElem?_getD,List.getElem?_eq_getElem hj];rfl
  rw [this];rfl
 · have hm2:=hp.mem_iff.1 hm;have hro:=hr r hm2;refine⟨hro,h1 r hm2,λe=>?_,hro.lt⟩;obtain⟨⟨cur2,q1,-⟩,-⟩:=hro;rw [e,c1] at q1;simp at q1
 · exact((hp.map Ro.b).nodup_iff).2 (h2 hc)
theorem Ls{x:Rw}(h:rg (x.2 0).m):keyOf μ 3 (ι κ (x.2 0).m)=ς (kI x):=keyOf_int_mk Tryz.underlying3 h
theorem Lr{x:Rw}(h:(x.2 0).s.size<=1048576):keyOf μ 9 (τ (x.2 0).s)=ς (kS x):=keyOf_string_mk Tryz.underlying9 (by unfold maxLen;omega)
structure Rh(w:ο)(ac:Option Addr)(n:Nat)(C:Nat->Clm)(ar:Option Addr)(dr:Nat)(dm:Nat->Nat)(dR:Nat->Nat->Itm)(L0:List Ro):Prop where
 hC:CL w ac n C
 hdp:∀ k,k<n->AR C (C k).s k=false
 hR:OL w ar dr dm dR
 hS:RS w ar L0
 hRo:∀ r∈L0,RoAt w r/\0<r.x.1
 hlen:L0.length=dr
 hdr:dr<=1000
 hN:Nice n dr dm dR
 hg:∀ k,k<dr->Bc n C (dR k)
 hx:L0.map Ro.x=CN dr dm dR
 hnb:(L0.map Ro.b).Nodup
 hsd:Sd (C 0).t dr dm dR
 hrg:∀ i,i<dr->rg (dR i 0).m
theorem Rh.later{w w':ο}{ac:Option Addr}{n:Nat}{C:Nat->Clm}{ar:Option Addr}{dr:Nat}{dm:Nat->Nat}{dR:Nat->Nat->Itm}{L0:List Ro}(h:Rh w ac n C ar dr dm dR L0)(hb:υ w.heap.size w w'):Rh w' ac n C ar dr dm dR L0:=
 ⟨h.hC.later hb,h.hdp,h.hR.later hb,h.hS.all (AllC.below hb),λr hr=>⟨(h.hRo r hr).1.all (BlkC.below hb),(h.hRo r hr).2⟩,h.hlen,h.hdr,h.hN,h.hg,h.hx,h.hnb,h.hsd,h.hrg⟩
theorem Rh.ki{w:ο}{ac:Option Addr}{n:Nat}{C:Nat->Clm}{ar:Option Addr}{dr:Nat}{dm:Nat->Nat}{dR:Nat->Nat->Itm}{L0:List Ro}(h:Rh w ac n C ar dr dm dR L0):∀ r∈L0,keyOf μ 3 (ι κ (r.x.2 0).m)=ς (kI r.x):=λr hr=>by
 have h1:r.x∈CN dr dm dR:=by rw [←h.hx];exact List.mem_map_of_mem hr
 obtain⟨i,hi,e⟩:=Ce h1;exact Ls (by rw [e];exact h.hrg i hi)
theorem Rh.ks{w:ο}{ac:Option Addr}{n:Nat}{C:Nat->Clm}{ar:Option Addr}{dr:Nat}{dm:Nat->Nat}{dR:Nat->Nat->Itm}{L0:List Ro}(h:Rh w ac n C ar dr dm dR L0):∀ r∈L0,keyOf μ 9 (τ (r.x.2 0).s)=ς (kS r.x):=λr hr=>by
 have h1:r.x∈CN dr dm dR:=by rw [←h.hx];exact List.mem_map_of_mem hr
 obtain⟨i,hi,e⟩:=Ce h1;exact Lr (by rw [e];have:=h.hN.txt i hi 0 h.hN.n0;show (dR i 0).s.size<=_;omega)
theorem GF{key:Rw->Lit}:∀ {L' A:List Ro},(As key A L').1=true->(As key A L').2=A ++ L'
 | [],A,_=>by simp [As]
 | r :: L',A,h=>by
  unfold As at h ⊢;split at h
  · cases h
  ·
   rename_i hc
   rw [if_neg hc,GF h,List.append_assoc];rfl
theorem I3{L Cs:List Ro}{B:Nat}(h1:(L.map Ro.b).Nodup)(h2:(Cs.map Ro.b).Nodup)(h3:∀ r∈L,r.b<B)(h4:∀ r∈Cs,B<=r.b):((L ++ Cs).map Ro.b).Nodup:=by
 rw [List.map_append,List.nodup_append];refine⟨h1,h2,λa ha b hb=>?_⟩;obtain⟨p,hp,rfl⟩:=List.mem_map.1 ha;obtain⟨q,hq,rfl⟩:=List.mem_map.1 hb;have:=h3 p hp;have:=h4 q hq;omega
theorem I2{L M:List Ro}(h:L.Sublist M)(hn:(M.map Ro.b).Nodup):(L.map Ro.b).Nodup:=hn.sublist (h.map _)
theorem Fv(key:Rw->Lit)(X:List Rw)(L:List Ro):(Au key L X).Sublist L:=by rw [JP];exact List.filter_sublist
theorem KO{w:ο}{ac:Option Addr}{n:Nat}{C:Nat->Clm}{ar:Option Addr}{dr:Nat}{dm:Nat->Nat}{dR:Nat->Nat->Itm}{L0:List Ro}(h:Rh w ac n C ar dr dm dR L0){W:Nat->Itm}{n6:Nat}:∀ x∈C4 C n dm dR W n6 dr,keyOf μ 3 (ι κ (x.2 0).m)=ς (kI x):=Ci (λj hj=>Ls (h.hrg j hj))
theorem KN{w:ο}{ac:Option Addr}{n:Nat}{C:Nat->Clm}{ar:Option Addr}{dr:Nat}{dm:Nat->Nat}{dR:Nat->Nat->Itm}{L0:List Ro}(h:Rh w ac n C ar dr dm dR L0){W:Nat->Itm}{n6:Nat}:∀ x∈C4 C n dm dR W n6 dr,keyOf μ 9 (τ (x.2 0).s)=ς (kS x):=Ci (λj hj=>Lr (by have:=h.hN.txt j hj 0 h.hN.n0;show (dR j 0).s.size<=_;omega))
theorem TX(ds:ByteArray)(ac:Option Addr)(n cc:Nat)(C:Nat->Clm)(ar:Option Addr)(dr cr:Nat)(dm:Nat->Nat)(dR:Nat->Nat->Itm)(tb:ByteArray)(a2:Option Addr)(n2 c2:Nat)(a3:Option Addr)(n3 c3:Nat)(col:ByteArray)(a5:Option Addr)(n5 c5:Nat)(a6:Option Addr)(n6 c6:Nat)(a7:Option Addr)(n7 c7:Nat)(V:Nat->Itm)(L0:List Ro)(w:ο)(hH:Rh w ac n C ar dr dm dR L0)(hV:IL w a3 n3 V)(hn3:0<n3)(hn3m:n3<=20)(hVk:Kt (C 0).t (n3,V))(hVr:rg (V 0).m) :
 VK μ 72 #[χ #[τ ds,σ ac n cc,σ ar dr cr],χ #[ι κ 2,τ tb,σ a2 n2 c2,σ a3 n3 c3,τ col,σ a5 n5 c5,σ a6 n6 c6,σ a7 n7 c7]] w (LR L0 ((List.range (dr+1)).map (Cb dm dR (n3,V) (A0 dR (V 0).m (V 0).s dr))) (if A0 dR (V 0).m (V 0).s dr<dr/\BH (dR (A0 dR (V 0).m (V 0).s dr) 0).m (dR (A0 dR (V 0).m (V 0).s dr) 0).s (V 0).m (V 0).s=0 then 5 else if dr=1000 then 6 else 0) w):=by
 have hbU:υ w.heap.size w ((w.alloc (γ #[τ ds,σ ac n cc,σ ar dr cr] 67)).alloc (γ #[ι κ 2,τ tb,σ a2 n2 c2,σ a3 n3 c3,τ col,σ a5 n5 c5,σ a6 n6 c6,σ a7 n7 c7] 34)):=AA (AD _ _) (AD _ _);have hq0:((w.alloc (γ #[τ ds,σ ac n cc,σ ar dr cr] 67)).alloc (γ #[ι κ 2,τ tb,σ a2 n2 c2,σ a3 n3 c3,τ col,σ a5 n5 c5,σ a6 n6 c6,σ a7 n7 c7] 34)).heap[w.heap.size]?=ς (γ #[τ ds,σ ac n cc,σ ar dr cr] 67 (0,0)):=AC (η w _) (AD _ _);have hq1:((w.alloc (γ #[τ ds,σ ac n cc,σ ar dr cr] 67)).alloc (γ #[ι κ 2,τ tb,σ a2 n2 c2,σ a3 n3 c3,τ col,σ a5 n5 c5,σ a6 n6 c6,σ a7 n7 c7] 34)).heap[w.heap.size+1]?=ς (γ #[ι κ 2,τ tb,σ a2 n2 c2,σ a3 n3 c3,τ col,σ a5 n5 c5,σ a6 n6 c6,σ a7 n7 c7] 34 (0,0)):=by
  have z:=η (w.alloc (γ #[τ ds,σ ac n cc,σ ar dr cr] 67)) (γ #[ι κ 2,τ tb,σ a2 n2 c2,σ a3 n3 c3,τ col,σ a5 n5 c5,σ a6 n6 c6,σ a7 n7 c7] 34);rw [ω] at z;exact z
 have hU:=hH.later hbU;have hbl:∀ r∈L0,r.b<w.heap.size:=λr hr=>(hH.hRo r hr).1.lt;have hn0:=hH.hN.n0;obtain⟨b,off,rfl,d0_,d1_,-⟩:=hU.hC 0 hn0;rw [Nat.zero_mul,Vf] at d0_ d1_;obtain⟨y0_,y1_,y2_,-,-,-⟩:=AL hq0;obtain⟨x0_,x1_,x2_,x3_,x4_,x5_,x6_,x7_⟩:=AJ hq1;have hn0i:(0:Int)<(n:Int):=by omega
 by_cases ht1:(C 0).t=1
 ·
  have hKW:KeyW (C 0).t kI DG:=by rw [ht1];exact Pl
  have HB:VK μ 109 #[χ #[τ ds,σ (ς ⟨b,off,ν⟩) n cc,σ ar dr cr],χ #[ι κ 2,τ tb,σ a2 n2 c2,σ a3 n3 c3,τ col,σ a5 n5 c5,σ a6 n6 c6,σ a7 n7 c7],.func (.func 100) #[] #[]] ((w.alloc (γ #[τ ds,σ (ς ⟨b,off,ν⟩) n cc,σ ar dr cr] 67)).alloc (γ #[ι κ 2,τ tb,σ a2 n2 c2,σ a3 n3 c3,τ col,σ a5 n5 c5,σ a6 n6 c6,σ a7 n7 c7] 34)) (LR L0 ((List.range (dr+1)).map (Cb dm dR (n3,V) (A0 dR (V 0).m (V 0).s dr))) (if A0 dR (V 0).m (V 0).s dr<dr/\BH (dR (A0 dR (V 0).m (V 0).s dr) 0).m (dR (A0 dR (V 0).m (V 0).s dr) 0).s (V 0).m (V 0).s=0 then 5 else if dr=1000 then 6 else 0) w):=by
   refine(Ti ds (ς ⟨b,off,ν⟩) n cc C ar dr cr dm dR tb a2 n2 c2 a3 n3 c3 col a5 n5 c5 a6 n6 c6 a7 n7 c7 V L0 ((w.alloc (γ #[τ ds,σ (ς ⟨b,off,ν⟩) n cc,σ ar dr cr] 67)).alloc (γ #[ι κ 2,τ tb,σ a2 n2 c2,σ a3 n3 c3,τ col,σ a5 n5 c5,σ a6 n6 c6,σ a7 n7 c7] 34)) hU.hC hU.hdp hU.hR hU.hS hU.hRo hU.hlen hU.hdr hU.hN hU.hg hU.ki (C3 hKW hU.hsd hU.hx) (hV.later hbU) hn3 (by omega) (Ls (x:=(n3,V)) hVr)).mono (λe w9 hP=>?_);obtain⟨r,hrx,hrb,hT⟩:=hP;have hsz:=hbU.size;have hiff:=(Gk hKW hH.hsd hH.hx hVk).trans (L2 hH.hsd hVk);by_cases hh:Cq kI L0 (kI (n3,V))=true
   · rw [if_pos hh,if_pos hh] at hT;rw [if_pos (hiff.1 hh)];exact hT.ch hbU (λq hq=>VV hq) (λhc=>by omega) (λhc=>by omega)
   ·
    rw [if_neg hh,if_neg hh,hH.hlen] at hT;rw [if_neg (λz=>hh (hiff.2 z))];refine hT.ch hbU (λq hq=>?_) (λ_=>I3 (B:=w.heap.size) hH.hnb (by simp) hbl (λq hq=>by rw [List.mem_singleton] at hq;subst hq;omega)) (λ_=>?_)
    ·
     rcases List.mem_append.1 hq with h | h
     · exact VV h
     · rw [List.mem_singleton] at h;subst h;exact Vb (by omega)
    · have z:=Jy hKW hH.hsd hH.hx (q:=r) (by rw [hrx];exact hVk) (by rw [hrx];exact λz=>hh ((Gk hKW hH.hsd hH.hx hVk).2 z));rw [hrx] at z;exact z
  have hcm:((C 0).t == 1)=true:=by simpa using ht1
  clear ht1 hKW;generalize ((if A0 dR (V 0).m (V 0).s dr<dr/\BH (dR (A0 dR (V 0).m (V 0).s dr) 0).m (dR (A0 dR (V 0).m (V 0).s dr) 0).s (V 0).m (V 0).s=0 then 5 else if dr=1000 then 6 else 0):Int)=cd at HB ⊢
  generalize ((List.range (dr+1)).map (Cb dm dR (n3,V) (A0 dR (V 0).m (V 0).s dr)))=rows at HB ⊢;go_enter Tryz.func72,Tryz.ntmps72
  go_wp2_with (go_at_call 109;refine HB.mono ?_;rintro e w9 ⟨g,c,S,rfl,h1_,h2_,h3_,h4_,h5_,h6_,h7_⟩)
  refine VE (VZ rfl _ _ _) rfl ?_;exact⟨g,c,S,rfl,h1_,h2_,h3_,h4_,h5_,h6_,h7_⟩
 ·
  have hKW:KeyW (C 0).t kS DF:=by exact Pk ht1
  have HB:VK μ 110 #[χ #[τ ds,σ (ς ⟨b,off,ν⟩) n cc,σ ar dr cr],χ #[ι κ 2,τ tb,σ a2 n2 c2,σ a3 n3 c3,τ col,σ a5 n5 c5,σ a6 n6 c6,σ a7 n7 c7],.func (.func 102) #[] #[]] ((w.alloc (γ #[τ ds,σ (ς ⟨b,off,ν⟩) n cc,σ ar dr cr] 67)).alloc (γ #[ι κ 2,τ tb,σ a2 n2 c2,σ a3 n3 c3,τ col,σ a5 n5 c5,σ a6 n6 c6,σ a7 n7 c7] 34)) (LR L0 ((List.range (dr+1)).map (Cb dm dR (n3,V) (A0 dR (V 0).m (V 0).s dr))) (if A0 dR (V 0).m (V 0).s dr<dr/\BH (dR (A0 dR (V 0).m (V 0).s dr) 0).m (dR (A0 dR (V 0).m (V 0).s dr) 0).s (V 0).m (V 0).s=0 then 5 else if dr=1000 then 6 else 0) w):=by
   refine(Te ds (ς ⟨b,off,ν⟩) n cc C ar dr cr dm dR tb a2 n2 c2 a3 n3 c3 col a5 n5 c5 a6 n6 c6 a7 n7 c7 V L0 ((w.alloc (γ #[τ ds,σ (ς ⟨b,off,ν⟩) n cc,σ ar dr cr] 67)).alloc (γ #[ι κ 2,τ tb,σ a2 n2 c2,σ a3 n3 c3,τ col,σ a5 n5 c5,σ a6 n6 c6,σ a7 n7 c7] 34)) hU.hC hU.hdp hU.hR hU.hS hU.hRo hU.hlen hU.hdr hU.hN hU.hg hU.ks (C3 hKW hU.hsd hU.hx) (hV.later hbU) hn3 (by omega) (Lr (x:=(n3,V)) (hV.sz hn3))).mono (λe w9 hP=>?_);obtain⟨r,hrx,hrb,hT⟩:=hP;have hsz:=hbU.size;have hiff:=(Gk hKW hH.hsd hH.hx hVk).trans (L2 hH.hsd hVk);by_cases hh:Cq kS L0 (kS (n3,V))=true
   · rw [if_pos hh,if_pos hh] at hT;rw [if_pos (hiff.1 hh)];exact hT.ch hbU (λq hq=>VV hq) (λhc=>by omega) (λhc=>by omega)
   ·
    rw [if_neg hh,if_neg hh,hH.hlen] at hT;rw [if_neg (λz=>hh (hiff.2 z))];refine hT.ch hbU (λq hq=>?_) (λ_=>I3 (B:=w.heap.size) hH.hnb (by simp) hbl (λq hq=>by rw [List.mem_singleton] at hq;subst hq;omega)) (λ_=>?_)
    ·
     rcases List.mem_append.1 hq with h | h
     · exact VV h
     · rw [List.mem_singleton] at h;subst h;exact Vb (by omega)
    · have z:=Jy hKW hH.hsd hH.hx (q:=r) (by rw [hrx];exact hVk) (by rw [hrx];exact λz=>hh ((Gk hKW hH.hsd hH.hx hVk).2 z));rw [hrx] at z;exact z
  have hcm:((C 0).t == 1)=false:=by simpa using ht1
  clear ht1 hKW;generalize ((if A0 dR (V 0).m (V 0).s dr<dr/\BH (dR (A0 dR (V 0).m (V 0).s dr) 0).m (dR (A0 dR (V 0).m (V 0).s dr) 0).s (V 0).m (V 0).s=0 then 5 else if dr=1000 then 6 else 0):Int)=cd at HB ⊢
  generalize ((List.range (dr+1)).map (Cb dm dR (n3,V) (A0 dR (V 0).m (V 0).s dr)))=rows at HB ⊢;go_enter Tryz.func72,Tryz.ntmps72
  go_wp2_with (go_at_call 110;refine HB.mono ?_;rintro e w9 ⟨g,c,S,rfl,h1_,h2_,h3_,h4_,h5_,h6_,h7_⟩)
  refine VE (VZ rfl _ _ _) rfl ?_;exact⟨g,c,S,rfl,h1_,h2_,h3_,h4_,h5_,h6_,h7_⟩
theorem TW(ds:ByteArray)(ac:Option Addr)(n cc:Nat)(C:Nat->Clm)(ar:Option Addr)(dr cr:Nat)(dm:Nat->Nat)(dR:Nat->Nat->Itm)(tb:ByteArray)(a2:Option Addr)(n2 c2:Nat)(a3:Option Addr)(n3 c3:Nat)(col:ByteArray)(a5:Option Addr)(n5 c5:Nat)(a6:Option Addr)(n6 c6:Nat)(a7:Option Addr)(n7 c7:Nat)(E W:Nat->Itm)(q:Nat)(L0:List Ro)(w:ο)(hH:Rh w ac n C ar dr dm dR L0)(hE:IL w a5 n5 E)(hW:IL w a6 n6 W)(hok:AI W n6=true)(hcw:CM C n W n6=0)(hokE:AZ E n5=true)(hck:(ck C n E n5).2=0)(hq:BF C col n=ς q)(hcs:col.size<=1048576)(hXk:∀ x∈C4 C n dm dR W n6 dr,Kt (C 0).t (Ed C n q E n5 x))(hXr:∀ x∈C4 C n dm dR W n6 dr,rg ((Ed C n q E n5 x).2 0).m)(hXs:∀ x∈C4 C n dm dR W n6 dr,((Ed C n q E n5 x).2 0).s.size<=1048576) :
 VK μ 72 #[χ #[τ ds,σ ac n cc,σ ar dr cr],χ #[ι κ 3,τ tb,σ a2 n2 c2,σ a3 n3 c3,τ col,σ a5 n5 c5,σ a6 n6 c6,σ a7 n7 c7]] w (LR L0 (Av n C dr dm dR q E n5 W n6) (if DY C n dR E n5 W n6 dr=true then 6 else if Cc (Av n C dr dm dR q E n5 W n6) dr=true then 5 else 0) w):=by
 have hbU:υ w.heap.size w ((w.alloc (γ #[τ ds,σ ac n cc,σ ar dr cr] 67)).alloc (γ #[ι κ 3,τ tb,σ a2 n2 c2,σ a3 n3 c3,τ col,σ a5 n5 c5,σ a6 n6 c6,σ a7 n7 c7] 34)):=AA (AD _ _) (AD _ _);have hq0:((w.alloc (γ #[τ ds,σ ac n cc,σ ar dr cr] 67)).alloc (γ #[ι κ 3,τ tb,σ a2 n2 c2,σ a3 n3 c3,τ col,σ a5 n5 c5,σ a6 n6 c6,σ a7 n7 c7] 34)).heap[w.heap.size]?=ς (γ #[τ ds,σ ac n cc,σ ar dr cr] 67 (0,0)):=AC (η w _) (AD _ _);have hq1:((w.alloc (γ #[τ ds,σ ac n cc,σ ar dr cr] 67)).alloc (γ #[ι κ 3,τ tb,σ a2 n2 c2,σ a3 n3 c3,τ col,σ a5 n5 c5,σ a6 n6 c6,σ a7 n7 c7] 34)).heap[w.heap.size+1]?=ς (γ #[ι κ 3,τ tb,σ a2 n2 c2,σ a3 n3 c3,τ col,σ a5 n5 c5,σ a6 n6 c6,σ a7 n7 c7] 34 (0,0)):=by
  have z:=η (w.alloc (γ #[τ ds,σ ac n cc,σ ar dr cr] 67)) (γ #[ι κ 3,τ tb,σ a2 n2 c2,σ a3 n3 c3,τ col,σ a5 n5 c5,σ a6 n6 c6,σ a7 n7 c7] 34);rw [ω] at z;exact z
 have hU:=hH.later hbU;have hbl:∀ r∈L0,r.b<w.heap.size:=λr hr=>(hH.hRo r hr).1.lt;have hn0:=hH.hN.n0;obtain⟨b,off,rfl,d0_,d1_,-⟩:=hU.hC 0 hn0;rw [Nat.zero_mul,Vf] at d0_ d1_;obtain⟨y0_,y1_,y2_,-,-,-⟩:=AL hq0;obtain⟨x0_,x1_,x2_,x3_,x4_,x5_,x6_,x7_⟩:=AJ hq1;have hn0i:(0:Int)<(n:Int):=by omega
 by_cases ht1:(C 0).t=1
 ·
  have hKW:KeyW (C 0).t kI DG:=by rw [ht1];exact Pl
  have HB:VK μ 109 #[χ #[τ ds,σ (ς ⟨b,off,ν⟩) n cc,σ ar dr cr],χ #[ι κ 3,τ tb,σ a2 n2 c2,σ a3 n3 c3,τ col,σ a5 n5 c5,σ a6 n6 c6,σ a7 n7 c7],.func (.func 100) #[] #[]] ((w.alloc (γ #[τ ds,σ (ς ⟨b,off,ν⟩) n cc,σ ar dr cr] 67)).alloc (γ #[ι κ 3,τ tb,σ a2 n2 c2,σ a3 n3 c3,τ col,σ a5 n5 c5,σ a6 n6 c6,σ a7 n7 c7] 34)) (LR L0 (Av n C dr dm dR q E n5 W n6) (if DY C n dR E n5 W n6 dr=true then 6 else if Cc (Av n C dr dm dR q E n5 W n6) dr=true then 5 else 0) w):=by
   refine(Th ds (ς ⟨b,off,ν⟩) n cc C ar dr cr dm dR tb a2 n2 c2 a3 n3 c3 col a5 n5 c5 a6 n6 c6 a7 n7 c7 E W q _ L0 ((w.alloc (γ #[τ ds,σ (ς ⟨b,off,ν⟩) n cc,σ ar dr cr] 67)).alloc (γ #[ι κ 3,τ tb,σ a2 n2 c2,σ a3 n3 c3,τ col,σ a5 n5 c5,σ a6 n6 c6,σ a7 n7 c7] 34)) hU.hC hU.hdp hU.hR hU.hS hU.hRo hU.hlen hU.hdr hU.hN hU.hg hU.ki (C3 hKW hU.hsd hU.hx) (hE.later hbU) (hW.later hbU) hok hcw hokE hck hq hcs rfl (KO hH) (λx hx=>Ls (hXr x hx))).mono (λe w9 hP=>?_);have hsz:=hbU.size;have hbg:=Fz C n dm dR E n5 W n6 dr;rcases hP with ⟨h1,hT⟩ | ⟨h1,Cs,h2,h3,h4,hT⟩
   · rw [hbg,if_pos h1];exact hT.ch hbU (λq hq=>VV hq) (λhc=>by omega) (λhc=>by omega)
   ·
    obtain⟨hu1,hu2⟩:=LV hKW hH.hsd hH.hx C n q E n5 W n6 hXk h2;rw [hbg,h1,if_neg (by simp)];have hsb:∀ r∈(As kI (Au kI L0 (C4 C n dm dR W n6 dr)) Cs).2,r∈L0∨w.heap.size<=r.b:=λr hr=>by
     rcases EB hr with h | h
     · exact VV (Bd h)
     · have:=h3 r h;exact Vb (by omega)
    by_cases hA:(As kI (Au kI L0 (C4 C n dm dR W n6 dr)) Cs).1=true
    · rw [if_pos hA] at hT;rw [hu1.1 hA,if_neg (by simp)];exact hT.ch hbU hsb (λ_=>by rw [GF hA];exact I3 (B:=w.heap.size) (I2 (Fv _ _ _) hH.hnb) h4 (λr hr=>hbl r (Bd hr)) (λr hr=>by have:=h3 r hr;omega)) (λ_=>hu2 hA)
    ·
     rw [if_neg hA] at hT;have hd:Cc (Av n C dr dm dR q E n5 W n6) dr=true:=by
      rcases z:Cc (Av n C dr dm dR q E n5 W n6) dr with _ | _
      · exact absurd (hu1.2 z) hA
      · rfl
     rw [if_pos hd];exact hT.ch hbU hsb (λhc=>by omega) (λhc=>by omega)
  have hcm:((C 0).t == 1)=true:=by simpa using ht1
  clear ht1 hKW;generalize ((if DY C n dR E n5 W n6 dr=true then 6 else if Cc (Av n C dr dm dR q E n5 W n6) dr=true then 5 else 0):Int)=cd at HB ⊢
  generalize (Av n C dr dm dR q E n5 W n6)=rows at HB ⊢;go_enter Tryz.func72,Tryz.ntmps72
  go_wp2_with (go_at_call 109;refine HB.mono ?_;rintro e w9 ⟨g,c,S,rfl,h1_,h2_,h3_,h4_,h5_,h6_,h7_⟩)
  refine VE (VZ rfl _ _ _) rfl ?_;exact⟨g,c,S,rfl,h1_,h2_,h3_,h4_,h5_,h6_,h7_⟩
 ·
  have hKW:KeyW (C 0).t kS DF:=by exact Pk ht1
  have HB:VK μ 110 #[χ #[τ ds,σ (ς ⟨b,off,ν⟩) n cc,σ ar dr cr],χ #[ι κ 3,τ tb,σ a2 n2 c2,σ a3 n3 c3,τ col,σ a5 n5 c5,σ a6 n6 c6,σ a7 n7 c7],.func (.func 102) #[] #[]] ((w.alloc (γ #[τ ds,σ (ς ⟨b,off,ν⟩) n cc,σ ar dr cr] 67)).alloc (γ #[ι κ 3,τ tb,σ a2 n2 c2,σ a3 n3 c3,τ col,σ a5 n5 c5,σ a6 n6 c6,σ a7 n7 c7] 34)) (LR L0 (Av n C dr dm dR q E n5 W n6) (if DY C n dR E n5 W n6 dr=true then 6 else if Cc (Av n C dr dm dR q E n5 W n6) dr=true then 5 else 0) w):=by
   refine(Tc ds (ς ⟨b,off,ν⟩) n cc C ar dr cr dm dR tb a2 n2 c2 a3 n3 c3 col a5 n5 c5 a6 n6 c6 a7 n7 c7 E W q _ L0 ((w.alloc (γ #[τ ds,σ (ς ⟨b,off,ν⟩) n cc,σ ar dr cr] 67)).alloc (γ #[ι κ 3,τ tb,σ a2 n2 c2,σ a3 n3 c3,τ col,σ a5 n5 c5,σ a6 n6 c6,σ a7 n7 c7] 34)) hU.hC hU.hdp hU.hR hU.hS hU.hRo hU.hlen hU.hdr hU.hN hU.hg hU.ks (C3 hKW hU.hsd hU.hx) (hE.later hbU) (hW.later hbU) hok hcw hokE hck hq hcs rfl (KN hH) (λx hx=>Lr (hXs x hx))).mono (λe w9 hP=>?_);have hsz:=hbU.size;have hbg:=Fz C n dm dR E n5 W n6 dr;rcases hP with ⟨h1,hT⟩ | ⟨h1,Cs,h2,h3,h4,hT⟩
   · rw [hbg,if_pos h1];exact hT.ch hbU (λq hq=>VV hq) (λhc=>by omega) (λhc=>by omega)
   ·
    obtain⟨hu1,hu2⟩:=LV hKW hH.hsd hH.hx C n q E n5 W n6 hXk h2;rw [hbg,h1,if_neg (by simp)];have hsb:∀ r∈(As kS (Au kS L0 (C4 C n dm dR W n6 dr)) Cs).2,r∈L0∨w.heap.size<=r.b:=λr hr=>by
     rcases EB hr with h | h
     · exact VV (Bd h)
     · have:=h3 r h;exact Vb (by omega)
    by_cases hA:(As kS (Au kS L0 (C4 C n dm dR W n6 dr)) Cs).1=true
    · rw [if_pos hA] at hT;rw [hu1.1 hA,if_neg (by simp)];exact hT.ch hbU hsb (λ_=>by rw [GF hA];exact I3 (B:=w.heap.size) (I2 (Fv _ _ _) hH.hnb) h4 (λr hr=>hbl r (Bd hr)) (λr hr=>by have:=h3 r hr;omega)) (λ_=>hu2 hA)
    ·
     rw [if_neg hA] at hT;have hd:Cc (Av n C dr dm dR q E n5 W n6) dr=true:=by
      rcases z:Cc (Av n C dr dm dR q E n5 W n6) dr with _ | _
      · exact absurd (hu1.2 z) hA
      · rfl
     rw [if_pos hd];exact hT.ch hbU hsb (λhc=>by omega) (λhc=>by omega)
  have hcm:((C 0).t == 1)=false:=by simpa using ht1
  clear ht1 hKW;generalize ((if DY C n dR E n5 W n6 dr=true then 6 else if Cc (Av n C dr dm dR q E n5 W n6) dr=true then 5 else 0):Int)=cd at HB ⊢
  generalize (Av n C dr dm dR q E n5 W n6)=rows at HB ⊢;go_enter Tryz.func72,Tryz.ntmps72
  go_wp2_with (go_at_call 110;refine HB.mono ?_;rintro e w9 ⟨g,c,S,rfl,h1_,h2_,h3_,h4_,h5_,h6_,h7_⟩)
  refine VE (VZ rfl _ _ _) rfl ?_;exact⟨g,c,S,rfl,h1_,h2_,h3_,h4_,h5_,h6_,h7_⟩
theorem TV(ds:ByteArray)(ac:Option Addr)(n cc:Nat)(C:Nat->Clm)(ar:Option Addr)(dr cr:Nat)(dm:Nat->Nat)(dR:Nat->Nat->Itm)(tb:ByteArray)(a2:Option Addr)(n2 c2:Nat)(a3:Option Addr)(n3 c3:Nat)(col:ByteArray)(a5:Option Addr)(n5 c5:Nat)(a6:Option Addr)(n6 c6:Nat)(a7:Option Addr)(n7 c7:Nat)(W:Nat->Itm)(L0:List Ro)(w:ο)(hH:Rh w ac n C ar dr dm dR L0)(hW:IL w a6 n6 W)(hok:AI W n6=true)(hcw:CM C n W n6=0) :
 VK μ 72 #[χ #[τ ds,σ ac n cc,σ ar dr cr],χ #[ι κ 4,τ tb,σ a2 n2 c2,σ a3 n3 c3,τ col,σ a5 n5 c5,σ a6 n6 c6,σ a7 n7 c7]] w (LR L0 (F1 C n dm dR W n6 dr) 0 w):=by
 have hbU:υ w.heap.size w ((w.alloc (γ #[τ ds,σ ac n cc,σ ar dr cr] 67)).alloc (γ #[ι κ 4,τ tb,σ a2 n2 c2,σ a3 n3 c3,τ col,σ a5 n5 c5,σ a6 n6 c6,σ a7 n7 c7] 34)):=AA (AD _ _) (AD _ _);have hq0:((w.alloc (γ #[τ ds,σ ac n cc,σ ar dr cr] 67)).alloc (γ #[ι κ 4,τ tb,σ a2 n2 c2,σ a3 n3 c3,τ col,σ a5 n5 c5,σ a6 n6 c6,σ a7 n7 c7] 34)).heap[w.heap.size]?=ς (γ #[τ ds,σ ac n cc,σ ar dr cr] 67 (0,0)):=AC (η w _) (AD _ _);have hq1:((w.alloc (γ #[τ ds,σ ac n cc,σ ar dr cr] 67)).alloc (γ #[ι κ 4,τ tb,σ a2 n2 c2,σ a3 n3 c3,τ col,σ a5 n5 c5,σ a6 n6 c6,σ a7 n7 c7] 34)).heap[w.heap.size+1]?=ς (γ #[ι κ 4,τ tb,σ a2 n2 c2,σ a3 n3 c3,τ col,σ a5 n5 c5,σ a6 n6 c6,σ a7 n7 c7] 34 (0,0)):=by
  have z:=η (w.alloc (γ #[τ ds,σ ac n cc,σ ar dr cr] 67)) (γ #[ι κ 4,τ tb,σ a2 n2 c2,σ a3 n3 c3,τ col,σ a5 n5 c5,σ a6 n6 c6,σ a7 n7 c7] 34);rw [ω] at z;exact z
 have hU:=hH.later hbU;have hbl:∀ r∈L0,r.b<w.heap.size:=λr hr=>(hH.hRo r hr).1.lt;have hn0:=hH.hN.n0;obtain⟨b,off,rfl,d0_,d1_,-⟩:=hU.hC 0 hn0;rw [Nat.zero_mul,Vf] at d0_ d1_;obtain⟨y0_,y1_,y2_,-,-,-⟩:=AL hq0;obtain⟨x0_,x1_,x2_,x3_,x4_,x5_,x6_,x7_⟩:=AJ hq1;have hn0i:(0:Int)<(n:Int):=by omega
 by_cases ht1:(C 0).t=1
 ·
  have hKW:KeyW (C 0).t kI DG:=by rw [ht1];exact Pl
  have HB:VK μ 109 #[χ #[τ ds,σ (ς ⟨b,off,ν⟩) n cc,σ ar dr cr],χ #[ι κ 4,τ tb,σ a2 n2 c2,σ a3 n3 c3,τ col,σ a5 n5 c5,σ a6 n6 c6,σ a7 n7 c7],.func (.func 100) #[] #[]] ((w.alloc (γ #[τ ds,σ (ς ⟨b,off,ν⟩) n cc,σ ar dr cr] 67)).alloc (γ #[ι κ 4,τ tb,σ a2 n2 c2,σ a3 n3 c3,τ col,σ a5 n5 c5,σ a6 n6 c6,σ a7 n7 c7] 34)) (LR L0 (F1 C n dm dR W n6 dr) 0 w):=(Tg ds (ς ⟨b,off,ν⟩) n cc C ar dr cr dm dR tb a2 n2 c2 a3 n3 c3 col a5 n5 c5 a6 n6 c6 a7 n7 c7 W _ L0 ((w.alloc (γ #[τ ds,σ (ς ⟨b,off,ν⟩) n cc,σ ar dr cr] 67)).alloc (γ #[ι κ 4,τ tb,σ a2 n2 c2,σ a3 n3 c3,τ col,σ a5 n5 c5,σ a6 n6 c6,σ a7 n7 c7] 34)) hU.hC hU.hdp hU.hR hU.hS hU.hRo hU.hlen hU.hdr hU.hN hU.hg hU.ki (C3 hKW hU.hsd hU.hx) (hW.later hbU) hok hcw rfl (KO hH)).mono (λe w9 hP=>hP.ch hbU (λr hr=>VV (Bd hr)) (λ_=>I2 (Fv _ _ _) hH.hnb) (λ_=>KV hKW hH.hsd hH.hx C n W n6));have hcm:((C 0).t == 1)=true:=by simpa using ht1
  clear ht1 hKW;generalize (F1 C n dm dR W n6 dr)=rows at HB ⊢;go_enter Tryz.func72,Tryz.ntmps72
  go_wp2_with (go_at_call 109;refine HB.mono ?_;rintro e w9 ⟨g,c,S,rfl,h1_,h2_,h3_,h4_,h5_,h6_,h7_⟩)
  refine VE (VZ rfl _ _ _) rfl ?_;exact⟨g,c,S,rfl,λ_=>h1_ trivial,h2_,h3_,h4_,h5_,λ_=>h6_ trivial,h7_⟩
 ·
  have hKW:KeyW (C 0).t kS DF:=by exact Pk ht1
  have HB:VK μ 110 #[χ #[τ ds,σ (ς ⟨b,off,ν⟩) n cc,σ ar dr cr],χ #[ι κ 4,τ tb,σ a2 n2 c2,σ a3 n3 c3,τ col,σ a5 n5 c5,σ a6 n6 c6,σ a7 n7 c7],.func (.func 102) #[] #[]] ((w.alloc (γ #[τ ds,σ (ς ⟨b,off,ν⟩) n cc,σ ar dr cr] 67)).alloc (γ #[ι κ 4,τ tb,σ a2 n2 c2,σ a3 n3 c3,τ col,σ a5 n5 c5,σ a6 n6 c6,σ a7 n7 c7] 34)) (LR L0 (F1 C n dm dR W n6 dr) 0 w):=(Ta ds (ς ⟨b,off,ν⟩) n cc C ar dr cr dm dR tb a2 n2 c2 a3 n3 c3 col a5 n5 c5 a6 n6 c6 a7 n7 c7 W _ L0 ((w.alloc (γ #[τ ds,σ (ς ⟨b,off,ν⟩) n cc,σ ar dr cr] 67)).alloc (γ #[ι κ 4,τ tb,σ a2 n2 c2,σ a3 n3 c3,τ col,σ a5 n5 c5,σ a6 n6 c6,σ a7 n7 c7] 34)) hU.hC hU.hdp hU.hR hU.hS hU.hRo hU.hlen hU.hdr hU.hN hU.hg hU.ks (C3 hKW hU.hsd hU.hx) (hW.later hbU) hok hcw rfl (KN hH)).mono (λe w9 hP=>hP.ch hbU (λr hr=>VV (Bd hr)) (λ_=>I2 (Fv _ _ _) hH.hnb) (λ_=>KV hKW hH.hsd hH.hx C n W n6));have hcm:((C 0).t == 1)=false:=by simpa using ht1
  clear ht1 hKW;generalize (F1 C n dm dR W n6 dr)=rows at HB ⊢;go_enter Tryz.func72,Tryz.ntmps72
  go_wp2_with (go_at_call 110;refine HB.mono ?_;rintro e w9 ⟨g,c,S,rfl,h1_,h2_,h3_,h4_,h5_,h6_,h7_⟩)
  refine VE (VZ rfl _ _ _) rfl ?_;exact⟨g,c,S,rfl,λ_=>h1_ trivial,h2_,h3_,h4_,h5_,λ_=>h6_ trivial,h7_⟩
theorem TU(ds:ByteArray)(ac:Option Addr)(n cc:Nat)(C:Nat->Clm)(ar:Option Addr)(dr cr:Nat)(dm:Nat->Nat)(dR:Nat->Nat->Itm)(tb:ByteArray)(a2:Option Addr)(n2 c2:Nat)(a3:Option Addr)(n3 c3:Nat)(col:ByteArray)(a5:Option Addr)(n5 c5:Nat)(a6:Option Addr)(n6 c6:Nat)(a7:Option Addr)(n7 c7:Nat) (L0:List Ro)(w:ο)(hH:Rh w ac n C ar dr dm dR L0)  :
 VK μ 72 #[χ #[τ ds,σ ac n cc,σ ar dr cr],χ #[ι κ 5,τ tb,σ a2 n2 c2,σ a3 n3 c3,τ col,σ a5 n5 c5,σ a6 n6 c6,σ a7 n7 c7]] w (LR L0 (CN dr dm dR) 0 w):=by
 have hbU:υ w.heap.size w ((w.alloc (γ #[τ ds,σ ac n cc,σ ar dr cr] 67)).alloc (γ #[ι κ 5,τ tb,σ a2 n2 c2,σ a3 n3 c3,τ col,σ a5 n5 c5,σ a6 n6 c6,σ a7 n7 c7] 34)):=AA (AD _ _) (AD _ _);have hq0:((w.alloc (γ #[τ ds,σ ac n cc,σ ar dr cr] 67)).alloc (γ #[ι κ 5,τ tb,σ a2 n2 c2,σ a3 n3 c3,τ col,σ a5 n5 c5,σ a6 n6 c6,σ a7 n7 c7] 34)).heap[w.heap.size]?=ς (γ #[τ ds,σ ac n cc,σ ar dr cr] 67 (0,0)):=AC (η w _) (AD _ _);have hq1:((w.alloc (γ #[τ ds,σ ac n cc,σ ar dr cr] 67)).alloc (γ #[ι κ 5,τ tb,σ a2 n2 c2,σ a3 n3 c3,τ col,σ a5 n5 c5,σ a6 n6 c6,σ a7 n7 c7] 34)).heap[w.heap.size+1]?=ς (γ #[ι κ 5,τ tb,σ a2 n2 c2,σ a3 n3 c3,τ col,σ a5 n5 c5,σ a6 n6 c6,σ a7 n7 c7] 34 (0,0)):=by
  have z:=η (w.alloc (γ #[τ ds,σ ac n cc,σ ar dr cr] 67)) (γ #[ι κ 5,τ tb,σ a2 n2 c2,σ a3 n3 c3,τ col,σ a5 n5 c5,σ a6 n6 c6,σ a7 n7 c7] 34);rw [ω] at z;exact z
 have hU:=hH.later hbU;have hbl:∀ r∈L0,r.b<w.heap.size:=λr hr=>(hH.hRo r hr).1.lt;have hn0:=hH.hN.n0;obtain⟨b,off,rfl,d0_,d1_,-⟩:=hU.hC 0 hn0;rw [Nat.zero_mul,Vf] at d0_ d1_;obtain⟨y0_,y1_,y2_,-,-,-⟩:=AL hq0;obtain⟨x0_,x1_,x2_,x3_,x4_,x5_,x6_,x7_⟩:=AJ hq1;have hn0i:(0:Int)<(n:Int):=by omega
 by_cases ht1:(C 0).t=1
 ·
  have hKW:KeyW (C 0).t kI DG:=by rw [ht1];exact Pl
  have HB:VK μ 109 #[χ #[τ ds,σ (ς ⟨b,off,ν⟩) n cc,σ ar dr cr],χ #[ι κ 5,τ tb,σ a2 n2 c2,σ a3 n3 c3,τ col,σ a5 n5 c5,σ a6 n6 c6,σ a7 n7 c7],.func (.func 100) #[] #[]] ((w.alloc (γ #[τ ds,σ (ς ⟨b,off,ν⟩) n cc,σ ar dr cr] 67)).alloc (γ #[ι κ 5,τ tb,σ a2 n2 c2,σ a3 n3 c3,τ col,σ a5 n5 c5,σ a6 n6 c6,σ a7 n7 c7] 34)) (LR L0 (CN dr dm dR) 0 w):=(Tf ds (ς ⟨b,off,ν⟩) n cc C ar dr cr dm dR tb a2 n2 c2 a3 n3 c3 col a5 n5 c5 a6 n6 c6 a7 n7 c7 L0 ((w.alloc (γ #[τ ds,σ (ς ⟨b,off,ν⟩) n cc,σ ar dr cr] 67)).alloc (γ #[ι κ 5,τ tb,σ a2 n2 c2,σ a3 n3 c3,τ col,σ a5 n5 c5,σ a6 n6 c6,σ a7 n7 c7] 34)) hU.hC hU.hdp hU.hR hU.hS hU.hRo hU.hlen hU.hdr hU.hN hU.hg hU.ki (C3 hKW hU.hsd hU.hx)).mono (λe w9 hP=>hP.ch hbU (λr hr=>VV hr) (λ_=>hH.hnb) (λ_=>Ia hKW hH.hsd hH.hx));have hcm:((C 0).t == 1)=true:=by simpa using ht1
  clear ht1 hKW;generalize (CN dr dm dR)=rows at HB ⊢;go_enter Tryz.func72,Tryz.ntmps72
  go_wp2_with (go_at_call 109;refine HB.mono ?_;rintro e w9 ⟨g,c,S,rfl,h1_,h2_,h3_,h4_,h5_,h6_,h7_⟩)
  refine VE (VZ rfl _ _ _) rfl ?_;exact⟨g,c,S,rfl,λ_=>h1_ trivial,h2_,h3_,h4_,h5_,λ_=>h6_ trivial,h7_⟩
 ·
  have hKW:KeyW (C 0).t kS DF:=by exact Pk ht1
  have HB:VK μ 110 #[χ #[τ ds,σ (ς ⟨b,off,ν⟩) n cc,σ ar dr cr],χ #[ι κ 5,τ tb,σ a2 n2 c2,σ a3 n3 c3,τ col,σ a5 n5 c5,σ a6 n6 c6,σ a7 n7 c7],.func (.func 102) #[] #[]] ((w.alloc (γ #[τ ds,σ (ς ⟨b,off,ν⟩) n cc,σ ar dr cr] 67)).alloc (γ #[ι κ 5,τ tb,σ a2 n2 c2,σ a3 n3 c3,τ col,σ a5 n5 c5,σ a6 n6 c6,σ a7 n7 c7] 34)) (LR L0 (CN dr dm dR) 0 w):=(TZ ds (ς ⟨b,off,ν⟩) n cc C ar dr cr dm dR tb a2 n2 c2 a3 n3 c3 col a5 n5 c5 a6 n6 c6 a7 n7 c7 L0 ((w.alloc (γ #[τ ds,σ (ς ⟨b,off,ν⟩) n cc,σ ar dr cr] 67)).alloc (γ #[ι κ 5,τ tb,σ a2 n2 c2,σ a3 n3 c3,τ col,σ a5 n5 c5,σ a6 n6 c6,σ a7 n7 c7] 34)) hU.hC hU.hdp hU.hR hU.hS hU.hRo hU.hlen hU.hdr hU.hN hU.hg hU.ks (C3 hKW hU.hsd hU.hx)).mono (λe w9 hP=>hP.ch hbU (λr hr=>VV hr) (λ_=>hH.hnb) (λ_=>Ia hKW hH.hsd hH.hx));have hcm:((C 0).t == 1)=false:=by simpa using ht1
  clear ht1 hKW;generalize (CN dr dm dR)=rows at HB ⊢;go_enter Tryz.func72,Tryz.ntmps72
  go_wp2_with (go_at_call 110;refine HB.mono ?_;rintro e w9 ⟨g,c,S,rfl,h1_,h2_,h3_,h4_,h5_,h6_,h7_⟩)
  refine VE (VZ rfl _ _ _) rfl ?_;exact⟨g,c,S,rfl,λ_=>h1_ trivial,h2_,h3_,h4_,h5_,λ_=>h6_ trivial,h7_⟩
theorem Tw{t:Tb}{B g9 c9:Nat}{S:List Ro}(h:t.bl.Nodup)(hlt:∀ b∈t.bl,b<B)(hg:B<=g9)(hS:∀ r∈S,(r∈t.L∨B<=r.b)/\r.b≠g9)(hn:(S.map Ro.b).Nodup):(Tb.bl ⟨t.s,t.n,t.C,t.bc,t.cc,ς g9,c9,S⟩).Nodup:=by
 unfold Tb.bl at *;have h1:=List.nodup_cons.1 h;have hbc:=hlt t.bc List.mem_cons_self;show (t.bc :: ([g9] ++ S.map Ro.b)).Nodup
 rw [List.nodup_cons,List.singleton_append,List.nodup_cons];refine⟨λhm=>?_,λhm=>?_,hn⟩
 ·
  rcases List.mem_cons.1 hm with e | e
  · omega
  ·
   obtain⟨r,hr,e2⟩:=List.mem_map.1 e;rcases (hS r hr).1 with z | z
   · exact h1.1 (by rw [←e2];exact List.mem_append_right _ (List.mem_map_of_mem z))
   · omega
 · obtain⟨r,hr,e2⟩:=List.mem_map.1 hm;exact(hS r hr).2 e2
theorem Tx{t:Tb}{B g9 c9:Nat}{S:List Ro}(hS:∀ r∈S,r∈t.L∨B<=r.b)(hg:B<=g9):∀ b∈Tb.bl ⟨t.s,t.n,t.C,t.bc,t.cc,ς g9,c9,S⟩,b∈t.bl∨(B<=b/\(b=g9∨∃ r∈S,r.b=b)):=by
 intro b hm;rcases List.mem_cons.1 hm with e | e
 · exact VV (by have e':b=t.bc:=e;rw [e'];exact List.mem_cons_self)
 ·
  rcases List.mem_append.1 e with e | e
  ·
   have e':b=g9:=by simpa using e
   exact Vb ⟨by omega,VV e'⟩
  ·
   obtain⟨r,hr,e2⟩:=List.mem_map.1 e;rcases hS r hr with z | z
   · exact VV (by rw [←e2];exact List.mem_cons_of_mem _ (List.mem_append_right _ (List.mem_map_of_mem z)))
   · exact Vb ⟨by omega,Vb ⟨r,hr,e2⟩⟩
theorem Qj{lo g j n B g9 c9:Nat}{w9:ο}{A:List Tb}{T:Nat->Td}{S:List Ro}{rows:List Rw}(h:DbIn lo w9 g A)(hl:A.length=n)(hj:j<n)(ho:∀ i,i<n->TbOf (A.getD i b0) (T i))(hB:∀ b∈g :: A.flatMap Tb.bl,b<B)(hlo:lo<=B)
 (hrow:∃ cur,w9.heap[g9]?=ς (γ cur 30 (0,0))/\∀ i,i<S.length->cur[i]?=ς (S.getD i o0).v) (hg9:B<=g9) (hg9':g9<w9.heap.size) (hS:∀ r∈S,RoAt w9 r/\(r∈(A.getD j b0).L∨B<=r.b)/\r.b≠g9/\r.b<w9.heap.size) (hn:(S.map Ro.b).Nodup) (hx:S.map Ro.x=rows) :
 DbIn lo (w9.setCell ⟨g,j * 3+2,ν⟩ (σ (ς ⟨g9,0,ν⟩) S.length c9)) g (A.take j ++ ⟨(A.getD j b0).s,(A.getD j b0).n,(A.getD j b0).C,(A.getD j b0).bc,(A.getD j b0).cc,ς g9,c9,S⟩ :: A.drop (j+1))/\(A.take j ++ (⟨(A.getD j b0).s,(A.getD j b0).n,(A.getD j b0).C,(A.getD j b0).bc,(A.getD j b0).cc,ς g9,c9,S⟩:Tb) :: A.drop (j+1)).length=n/\(∀ b∈g :: (A.take j ++ (⟨(A.getD j b0).s,(A.getD j b0).n,(A.getD j b0).C,(A.getD j b0).bc,(A.getD j b0).cc,ς g9,c9,S⟩:Tb) :: A.drop (j+1)).flatMap Tb.bl,b∈g :: A.flatMap Tb.bl∨B<=b)/\∀ i,i<n->TbOf ((A.take j ++ (⟨(A.getD j b0).s,(A.getD j b0).n,(A.getD j b0).C,(A.getD j b0).bc,(A.getD j b0).cc,ς g9,c9,S⟩:Tb) :: A.drop (j+1)).getD i b0) (((Ap T n).take j ++ CA (T j).s (T j).n (T j).C rows :: (Ap T n).drop (j+1)).getD i t0):=by
 obtain⟨t,ht⟩:∃ t,A.getD j b0=t:=⟨_,rfl⟩;have hoj:=ho j hj;rw [ht] at hoj hS ⊢;have htm:t∈A:=by rw [←ht];exact Ae (by omega)
 obtain⟨t',ht'⟩:∃ t',(⟨t.s,t.n,t.C,t.bc,t.cc,ς g9,c9,S⟩:Tb)=t':=⟨_,rfl⟩;have hbl':=Tx (t:=t) (B:=B) (g9:=g9) (c9:=c9) (S:=S) (λr hr=>(hS r hr).2.1) hg9;obtain⟨hD,hin⟩:=h;have hnd:=List.nodup_cons.1 hD.2.2;have hAp:A.Perm (t :: (A.take j ++ A.drop (j+1))):=by
  have h1:A=A.take j ++ t :: A.drop (j+1):=by
   conv=>lhs;rw [←List.take_append_drop j A]
   congr 1
   rw [List.drop_eq_getElem_cons (by omega)];congr 1
   rw [←ht];simp [show j<A.length by omega]
  conv=>lhs;rw [h1]
  exact List.perm_middle
 have hNp:(A.take j ++ t' :: A.drop (j+1)).Perm (t' :: (A.take j ++ A.drop (j+1))):=List.perm_middle;have hfA:=hAp.flatMap_right Tb.bl;have hfN:=hNp.flatMap_right Tb.bl;rw [List.flatMap_cons] at hfA hfN;have hndA:=(hfA.nodup_iff).1 hnd.2;rw [List.nodup_append] at hndA;have hbn:=Tw (B:=B) (g9:=g9) (c9:=c9) (S:=S) hndA.1 (λb hb=>hB b (List.mem_cons_of_mem _ (hfA.mem_iff.2 (List.mem_append_left _ hb)))) hg9 (λr hr=>⟨(hS r hr).2.1,(hS r hr).2.2.1⟩) hn;rw [ht'] at hbn hbl' ⊢;have hXX:BlkX g w9 (w9.setCell ⟨g,j * 3+2,ν⟩ (σ (ς ⟨g9,0,ν⟩) S.length c9)):=BlkX.set _ _ _ _;have hgB:=hB g List.mem_cons_self;have hmem:∀ x∈A.take j ++ t' :: A.drop (j+1),x=t'∨x∈A:=λx hx=>by
  rcases List.mem_append.1 hx with h | h
  · exact Vb (List.mem_of_mem_take h)
  ·
   rcases List.mem_cons.1 h with h | h
   · exact VV h
   · exact Vb (List.mem_of_mem_drop h)
 have hlen:(A.take j ++ t' :: A.drop (j+1)).length=n:=by simp;omega
 have hgt:g ∉ t'.bl:=λhm=>by
  rcases hbl' g hm with z | z
  · exact hnd.1 (List.mem_flatMap.2 ⟨t,htm,z⟩)
  · omega
 have hbt:∀ b∈t'.bl,lo<=b/\b<w9.heap.size:=λb hm=>by
  rcases hbl' b hm with z | ⟨z,e | ⟨r,hr,e⟩⟩
  · exact hin b (List.mem_cons_of_mem _ (List.mem_flatMap.2 ⟨t,htm,z⟩))
  · omega
  · have:=(hS r hr).2.2.2;omega
 have htat:=hD.2.1 t htm;have htA':TbAt w9 t':=by
  rw [←ht'];obtain⟨cur,c1,c2⟩:=hrow;exact⟨htat.col,htat.cl,λr hr=>(hS r hr).1,Vb ⟨g9,cur,rfl,c1,c2⟩⟩
 refine⟨⟨⟨?_,?_,?_⟩,?_⟩,hlen,?_,?_⟩
 ·
  obtain⟨⟨cur,c1,c2,c3⟩,-,-⟩:=hD;refine⟨_,π _ _ _ _ _ _ c1,by rw [hlen,Array.size_setIfInBounds];omega,λi hi=>?_⟩;rw [hlen] at hi;by_cases e:i=j
  ·
   subst e;obtain⟨q0,q1,q2⟩:=c3 i (by omega);rw [ht] at q0 q1 q2;rw [DV (by simp;omega),←ht'];refine⟨?_,?_,?_⟩
   · rw [Array.getElem?_setIfInBounds_ne (by omega)];exact q0
   · rw [Array.getElem?_setIfInBounds_ne (by omega)];exact q1
   · rw [Array.getElem?_setIfInBounds_self_of_lt (by omega)];rfl
  ·
   have hgi:(A.take j ++ t' :: A.drop (j+1)).getD i b0=A.getD i b0:=by
    rcases Nat.lt_or_ge i j with z | z
    · rw [CW (by simp;omega),Dw z]
    · rw [Cr (i:=j) (by simp;omega) (by omega),Dx,show j+1+(i - j - 1)=i from by omega]
   rw [hgi];obtain⟨q0,q1,q2⟩:=c3 i (by omega);exact⟨by rw [Array.getElem?_setIfInBounds_ne (by omega)];exact q0,by rw [Array.getElem?_setIfInBounds_ne (by omega)];exact q1,by rw [Array.getElem?_setIfInBounds_ne (by omega)];exact q2⟩
 ·
  intro x hx;rcases hmem x hx with rfl | h
  · exact htA'.allX hXX hgt
  · exact(hD.2.1 x h).allX hXX (λhm=>hnd.1 (List.mem_flatMap.2 ⟨x,h,hm⟩))
 ·
  rw [List.nodup_cons,hfN.nodup_iff,List.nodup_append];refine⟨λhm=>?_,hbn,hndA.2.1,λa ha b hb e=>?_⟩
  ·
   rcases List.mem_append.1 (hfN.mem_iff.1 hm) with z | z
   · exact hgt z
   · exact hnd.1 (hfA.mem_iff.2 (List.mem_append_right _ z))
  ·
   subst e;rcases hbl' a ha with z | z
   · exact hndA.2.2 a z a hb rfl
   · have:=hB a (List.mem_cons_of_mem _ (hfA.mem_iff.2 (List.mem_append_right _ hb)));omega
 ·
  intro b hm;rw [Ve];rcases List.mem_cons.1 hm with z | z
  · rw [z];exact hin g List.mem_cons_self
  ·
   rcases List.mem_append.1 (hfN.mem_iff.1 z) with z | z
   · exact hbt b z
   · exact hin b (List.mem_cons_of_mem _ (hfA.mem_iff.2 (List.mem_append_right _ z)))
 ·
  intro b hm;rcases List.mem_cons.1 hm with z | z
  · rw [z];exact VV List.mem_cons_self
  ·
   rcases List.mem_append.1 (hfN.mem_iff.1 z) with z | z
   ·
    rcases hbl' b z with y | y
    · exact VV (List.mem_cons_of_mem _ (List.mem_flatMap.2 ⟨t,htm,y⟩))
    · exact Vb y.1
   · exact VV (List.mem_cons_of_mem _ (hfA.mem_iff.2 (List.mem_append_right _ z)))
 ·
  intro i hi;by_cases e:i=j
  ·
   subst e;rw [DV (by simp;omega),DV (by simp [AY];omega),←ht'];refine⟨hoj.s,hoj.n,hoj.C,?_⟩;show S.map Ro.x=(List.range rows.length).map (λi=>((rows.getD i r0).1,(rows.getD i r0).2))
   rw [hx];apply List.ext_getElem?
   intro q;rw [List.getElem?_map];by_cases hq:q<rows.length
   · rw [List.getElem?_range hq];simp [hq]
   · rw [List.getElem?_eq_none (by omega),List.getElem?_eq_none (by simp;omega)];rfl
  ·
   rcases Nat.lt_or_ge i j with z | z
   · rw [CW (by simp;omega),Dw z,CW (by simp [AY];omega),Dw z,DC T hi];exact ho i hi
   ·
    rw [Cr (i:=j) (by simp;omega) (by omega),Cr (i:=j) (by simp [AY];omega) (by omega),Dx,Dx,show j+1+(i - j - 1)=i from by omega,DC T hi]
    exact ho i hi
set_option maxHeartbeats 16000000
def MI(n:Nat)(T:Nat->Td)(tb:ByteArray)(code:Nat->Int)(cc:Nat->Int)(rows:Nat->List Rw):List Td×Int:=match An T tb n with
 | none=>(Ap T n,1)
 | some j=>if ¬code j=0 then (Ap T n,code j) else if ¬cc j=0 then (Ap T n,cc j) else ((Ap T n).take j ++ CA (T j).s (T j).n (T j).C (rows j) :: (Ap T n).drop (j+1),0)
theorem Fp(lo g n:Nat)(A:List Tb)(T:Nat->Td)(k0:Int)(tb:ByteArray)(a2:Option Addr)(n2 c2:Nat)(a3:Option Addr)(n3 c3:Nat)(col:ByteArray)(a5:Option Addr)(n5 c5:Nat)(a6:Option Addr)(n6 c6:Nat)(a7:Option Addr)(n7 c7:Nat)(code:Nat->Int)(cc:Nat->Int)(rows:Nat->List Rw)(w:ο)(hDb:DbIn lo w g A)(hAl:A.length=n)(hTO:∀ i,i<n->TbOf (A.getD i b0) (T i))(hSm:∀ i,i<n->Sm3 (T i))(hok:A2 n T=true)(hn:n<=100)(hk1:¬k0=1)(hlo:lo<=w.heap.size)
 (hcs:∀ j,An T tb n=ς j->∀ (v:ο) (ac:Option Addr) (cc pb:Nat),υ w.heap.size w v->CL v ac (T j).n (T j).C->PlAt v pb (T j).n (T j).C->(∀ k,k<(T j).n->AR (T j).C ((T j).C k).s k=false)->VK μ 79 #[χ #[σ ac (T j).n cc,.map (ς pb)],χ #[ι κ k0,τ tb,σ a2 n2 c2,σ a3 n3 c3,τ col,σ a5 n5 c5,σ a6 n6 c6,σ a7 n7 c7]] v λe w'=>e=ρ (ι κ (code j))/\υ v.heap.size v w')
 (hch:∀ j,An T tb n=ς j->code j=0->∀ v,υ w.heap.size w v->VK μ 72 #[χ #[τ (A.getD j b0).s,σ (ς ⟨(A.getD j b0).bc,0,ν⟩) (A.getD j b0).n (A.getD j b0).cc,σ (A.getD j b0).ar (A.getD j b0).L.length (A.getD j b0).cr],χ #[ι κ k0,τ tb,σ a2 n2 c2,σ a3 n3 c3,τ col,σ a5 n5 c5,σ a6 n6 c6,σ a7 n7 c7]] v (LR (A.getD j b0).L (rows j) (cc j) v)) :
 VK μ 29 #[χ #[σ (ς ⟨g,0,ν⟩) n n],χ #[ι κ k0,τ tb,σ a2 n2 c2,σ a3 n3 c3,τ col,σ a5 n5 c5,σ a6 n6 c6,σ a7 n7 c7]] w (AnP lo w (MI n T tb code cc rows).1 (MI n T tb code cc rows).2):=by
 have hbU:υ w.heap.size w (((w.alloc (γ #[σ (ς ⟨g,0,ν⟩) n n] 28)).alloc (γ #[ι κ k0,τ tb,σ a2 n2 c2,σ a3 n3 c3,τ col,σ a5 n5 c5,σ a6 n6 c6,σ a7 n7 c7] 34)).alloc (γ #[σ ν 0 0] 28)):=Ay _ _ _ _;have hs1:(w.alloc (γ #[σ (ς ⟨g,0,ν⟩) n n] 28)).heap.size=w.heap.size+1:=ω _ _;have hs2:((w.alloc (γ #[σ (ς ⟨g,0,ν⟩) n n] 28)).alloc (γ #[ι κ k0,τ tb,σ a2 n2 c2,σ a3 n3 c3,τ col,σ a5 n5 c5,σ a6 n6 c6,σ a7 n7 c7] 34)).heap.size=w.heap.size+1+1:=by rw [ω,hs1]
 have hs3:(((w.alloc (γ #[σ (ς ⟨g,0,ν⟩) n n] 28)).alloc (γ #[ι κ k0,τ tb,σ a2 n2 c2,σ a3 n3 c3,τ col,σ a5 n5 c5,σ a6 n6 c6,σ a7 n7 c7] 34)).alloc (γ #[σ ν 0 0] 28)).heap.size=w.heap.size+1+1+1:=by rw [ω,hs2]
 have hq0:(((w.alloc (γ #[σ (ς ⟨g,0,ν⟩) n n] 28)).alloc (γ #[ι κ k0,τ tb,σ a2 n2 c2,σ a3 n3 c3,τ col,σ a5 n5 c5,σ a6 n6 c6,σ a7 n7 c7] 34)).alloc (γ #[σ ν 0 0] 28)).heap[w.heap.size]?=ς (γ #[σ (ς ⟨g,0,ν⟩) n n] 28 (0,0)):=AC (AC (η w _) (AD _ _)) (AD _ _);have hq1:(((w.alloc (γ #[σ (ς ⟨g,0,ν⟩) n n] 28)).alloc (γ #[ι κ k0,τ tb,σ a2 n2 c2,σ a3 n3 c3,τ col,σ a5 n5 c5,σ a6 n6 c6,σ a7 n7 c7] 34)).alloc (γ #[σ ν 0 0] 28)).heap[w.heap.size+1]?=ς (γ #[ι κ k0,τ tb,σ a2 n2 c2,σ a3 n3 c3,τ col,σ a5 n5 c5,σ a6 n6 c6,σ a7 n7 c7] 34 (0,0)):=by
  have z:=AC (η (w.alloc (γ #[σ (ς ⟨g,0,ν⟩) n n] 28)) (γ #[ι κ k0,τ tb,σ a2 n2 c2,σ a3 n3 c3,τ col,σ a5 n5 c5,σ a6 n6 c6,σ a7 n7 c7] 34)) (AD _ (γ #[σ ν 0 0] 28));rw [hs1] at z;exact z
 have hq2:(((w.alloc (γ #[σ (ς ⟨g,0,ν⟩) n n] 28)).alloc (γ #[ι κ k0,τ tb,σ a2 n2 c2,σ a3 n3 c3,τ col,σ a5 n5 c5,σ a6 n6 c6,σ a7 n7 c7] 34)).alloc (γ #[σ ν 0 0] 28)).heap[w.heap.size+1+1]?=ς (γ #[σ ν 0 0] 28 (0,0)):=by
  have z:=η ((w.alloc (γ #[σ (ς ⟨g,0,ν⟩) n n] 28)).alloc (γ #[ι κ k0,τ tb,σ a2 n2 c2,σ a3 n3 c3,τ col,σ a5 n5 c5,σ a6 n6 c6,σ a7 n7 c7] 34)) (γ #[σ ν 0 0] 28);rw [hs2] at z;exact z
 have hTL:TL w (ς ⟨g,0,ν⟩) n T:=hDb.1.tl hAl hTO hSm;have HCK:=Mn (ς ⟨g,0,ν⟩) n n T k0 tb a2 n2 c2 a3 n3 c3 col a5 n5 c5 a6 n6 c6 a7 n7 c7 code (((w.alloc (γ #[σ (ς ⟨g,0,ν⟩) n n] 28)).alloc (γ #[ι κ k0,τ tb,σ a2 n2 c2,σ a3 n3 c3,τ col,σ a5 n5 c5,σ a6 n6 c6,σ a7 n7 c7] 34)).alloc (γ #[σ ν 0 0] 28)) (hTL.later hbU) (by omega) hok (λj hj v ac cc pb hv h1 h2 h3=>hcs j hj v ac cc pb (AA hbU hv) h1 h2 h3);obtain⟨p0,-⟩:=AG hq0;obtain⟨x0_,x1_,x2_,x3_,x4_,x5_,x6_,x7_⟩:=AJ hq1;have hk2:(k0 == 1)=false:=by simpa using hk1
 have HDI:Hid (∀ w1 cd v,υ w.heap.size w w1->AnP lo w (Ap T n) cd (ρ (θ #[χ #[σ (ς ⟨g,0,ν⟩) n n],ι κ cd])) (w1.setCell ⟨w.heap.size+1+1,0,ν⟩ v)):=λw1 cd v hb=>O8 hDb hAl hTO hb (by omega) hlo cd;have HTO:Hid (∀ i,i<n->TbOf (A.getD i b0) (T i)):=hTO;clear hTL hSm hcs hk1 hTO;rcases ht:An T tb n with _ | j
 ·
  have HA:Hid (MI n T tb code cc rows=(Ap T n,1)):=by show _=_;unfold MI;rw [ht]
  have hcg:PD n T tb code=(0,1):=by unfold PD;rw [ht]
  rw [hcg] at HCK;clear ht hch hcg;go_enter Tryz.func29,Tryz.ntmps29
  go_wp2_with (first | (go_at_call 33;refine HCK.mono ?_;rintro e w1 ⟨rfl,hb1⟩;have r0_:=AC hq0 hb1;have r1_:=AC hq1 hb1;have r2_:=AC hq2 hb1;obtain⟨t0_,tf0_⟩:=AG r0_;obtain⟨u0_,uf0_⟩:=AG r2_;have hb01:=AA hbU hb1) | go_in)
  refine VE (AE Tryz.results29 _ _ (w.heap.size+1+1) 28 _ (0,0) _ rfl (BW r2_ _) Tryz.underlying28 rfl (by kernel_rfl)) rfl ?_;rw [HA.out];exact HDI.out _ _ _ hb01
 ·
  have hj:=(A4 ht).1;have hcg:PD n T tb code=((j:Int),code j):=by unfold PD;rw [ht]
  rw [hcg] at HCK;have hchj:=hch j ht;by_cases hc:code j=0
  rotate_left
  ·
   have HA:Hid (MI n T tb code cc rows=(Ap T n,code j)):=by show _=_;unfold MI;rw [ht];exact if_pos hc
   generalize code j=cj at HCK HA hc hchj;have hc2:(cj != 0)=true:=by simpa using hc
   clear ht hch hcg hchj hc;go_enter Tryz.func29,Tryz.ntmps29
   go_wp2_with (first | (go_at_call 33;refine HCK.mono ?_;rintro e w1 ⟨rfl,hb1⟩;have r0_:=AC hq0 hb1;have r1_:=AC hq1 hb1;have r2_:=AC hq2 hb1;obtain⟨t0_,tf0_⟩:=AG r0_;obtain⟨u0_,uf0_⟩:=AG r2_;have hb01:=AA hbU hb1) | go_in)
   refine VE (AE Tryz.results29 _ _ (w.heap.size+1+1) 28 _ (0,0) _ rfl (BW r2_ _) Tryz.underlying28 rfl (by kernel_rfl)) rfl ?_;rw [HA.out];exact HDI.out _ _ _ hb01
  ·
   have HCH:Hid (∀ v,υ w.heap.size w v->VK μ 72 #[χ #[τ (A.getD j b0).s,σ (ς ⟨(A.getD j b0).bc,0,ν⟩) (A.getD j b0).n (A.getD j b0).cc,σ (A.getD j b0).ar (A.getD j b0).L.length (A.getD j b0).cr],χ #[ι κ k0,τ tb,σ a2 n2 c2,σ a3 n3 c3,τ col,σ a5 n5 c5,σ a6 n6 c6,σ a7 n7 c7]] v (LR (A.getD j b0).L (rows j) (cc j) v)):=hchj hc;have HA0:Hid (MI n T tb code cc rows=if ¬cc j=0 then (Ap T n,cc j) else ((Ap T n).take j ++ CA (T j).s (T j).n (T j).C (rows j) :: (Ap T n).drop (j+1),0)):=by show _=_;unfold MI;rw [ht];exact if_neg (λz=>z hc)
   rw [hc] at HCK;generalize cc j=ccj at HCH HA0;generalize rows j=rwj at HCH HA0;clear ht hch hcg hchj hc;have hjn:(j:Int)<n:=by omega
   have hj0:(0:Int)<=(j:Int):=by omega
   have hgw:=(hDb.2 g List.mem_cons_self).2;obtain⟨curT,hcT,hcT2,hcT3⟩:=hDb.1.1;obtain⟨ce0,ce1,ce2⟩:=hcT3 j (by omega);obtain⟨tj,htj⟩:∃ t,A.getD j b0=t:=⟨_,rfl⟩;have HTJ:Hid (A.getD j b0=tj):=htj;rw [htj] at ce0 ce1 ce2 HCH;clear htj hcT3;by_cases hcc:ccj=0
   rotate_left
   ·
    have HA:Hid (MI n T tb code cc rows=(Ap T n,ccj)):=by show _=_;rw [HA0.out];exact if_pos hcc
    have hc2:(ccj == 0)=false:=by simpa using hcc
    clear hcc HA0;go_enter Tryz.func29,Tryz.ntmps29
    go_wp2_with (first | (go_at_call 33;refine HCK.mono ?_;rintro e w1 ⟨rfl,hb1⟩;have r0_:=AC hq0 hb1;have r1_:=AC hq1 hb1;have r2_:=AC hq2 hb1;obtain⟨t0_,tf0_⟩:=AG r0_;obtain⟨u0_,uf0_⟩:=AG r2_;have hb01:=AA hbU hb1) | go_in)
    have e0_:=(ε _ _ (j * 3) _ _ _ (AC hcT hb01)).trans ce0;have e1_:=(ε _ _ (j * 3+1) _ _ _ (AC hcT hb01)).trans ce1;have e2_:=(ε _ _ (j * 3+2) _ _ _ (AC hcT hb01)).trans ce2;refine VH (S:=λx=>υ w1.heap.size w1 x) (by kernel_rfl) (Ar _) (λjH=>?_);refine tk 0 jH ?_;refine tk 1 jH ?_ (hy:=λx jS=>by obtain⟨Dl,-⟩:=AG (AC r0_ jS);obtain⟨j0_,j1_,j2_,j3_,j4_,j5_,j6_,j7_⟩:=AJ (AC r1_ jS);have l0_:=AB jS e0_;have l1_:=AB jS e1_;have l2_:=AB jS e2_;go_simp<;>rfl)
    try simp only [zS]
    refine tk 2 jH ?_;try simp only [zS];refine tk 3 jH ?_;try simp only [zS];refine tk 4 jH ?_ (hy:=λx jS=>by obtain⟨Dl,-⟩:=AG (AC r0_ jS);obtain⟨j0_,j1_,j2_,j3_,j4_,j5_,j6_,j7_⟩:=AJ (AC r1_ jS);have l0_:=AB jS e0_;have l1_:=AB jS e1_;have l2_:=AB jS e2_;go_simp<;>rfl)
    try simp only [zS]
    refine tk 5 jH ?_ (hy:=λx jS=>by obtain⟨Dl,-⟩:=AG (AC r0_ jS);obtain⟨j0_,j1_,j2_,j3_,j4_,j5_,j6_,j7_⟩:=AJ (AC r1_ jS);have l0_:=AB jS e0_;have l1_:=AB jS e1_;have l2_:=AB jS e2_;go_simp<;>rfl)
    try simp only [zS]
    refine rd 6 (λK hK=>?_);go_simp;refine(HCH.out _ (AA hb01 jH)).mono ?_;rintro e w9 hC9;obtain⟨g9,c9,S,rfl,k1_,k2_,k3_,k4_,k5_,k6_,hb9⟩:=hC9;have hsv9:=jH.size;refine hK.out _ _ (AA jH hb9) (λjH=>?_);clear hK K;try simp only [zS]
    refine tk 7 jH ?_;try simp only [zS];refine tk 8 jH ?_;refine tk 9 jH ?_;try simp only [zS];refine tk 10 jH ?_;try simp only [zS];refine tk 11 jH ?_
    try simp only [zS]
    refine VP (by kernel_rfl) ?_ _;have hres9:=AC r2_ jH;obtain⟨o0_,of_⟩:=AG hres9;obtain⟨q0_,-⟩:=AG (AC r0_ jH);go_wp2;refine VE (AE Tryz.results29 _ _ (w.heap.size+1+1) 28 _ (0,0) _ rfl (BW hres9 _) Tryz.underlying28 rfl (by kernel_rfl)) rfl ?_;rw [HA.out];exact HDI.out _ _ _ (AA hb01 jH)
   ·
    subst hcc;have HA:Hid (MI n T tb code cc rows=((Ap T n).take j ++ CA (T j).s (T j).n (T j).C rwj :: (Ap T n).drop (j+1),0)):=by show _=_;rw [HA0.out];exact if_neg (λz=>z rfl)
    clear HA0;go_enter Tryz.func29,Tryz.ntmps29
    go_wp2_with (first | (go_at_call 33;refine HCK.mono ?_;rintro e w1 ⟨rfl,hb1⟩;have r0_:=AC hq0 hb1;have r1_:=AC hq1 hb1;have r2_:=AC hq2 hb1;obtain⟨t0_,tf0_⟩:=AG r0_;obtain⟨u0_,uf0_⟩:=AG r2_;have hb01:=AA hbU hb1) | go_in)
    have e0_:=(ε _ _ (j * 3) _ _ _ (AC hcT hb01)).trans ce0;have e1_:=(ε _ _ (j * 3+1) _ _ _ (AC hcT hb01)).trans ce1;have e2_:=(ε _ _ (j * 3+2) _ _ _ (AC hcT hb01)).trans ce2;refine VH (S:=λx=>υ w1.heap.size w1 x) (by kernel_rfl) (Ar _) (λjH=>?_);refine tk 0 jH ?_;try simp only [zS];refine tk 1 jH ?_ (hy:=λx jS=>by obtain⟨Dl,-⟩:=AG (AC r0_ jS);obtain⟨j0_,j1_,j2_,j3_,j4_,j5_,j6_,j7_⟩:=AJ (AC r1_ jS);have l0_:=AB jS e0_;have l1_:=AB jS e1_;have l2_:=AB jS e2_;go_simp<;>rfl)
    try simp only [zS]
    refine tk 2 jH ?_;refine tk 3 jH ?_;try simp only [zS];refine tk 4 jH ?_ (hy:=λx jS=>by obtain⟨Dl,-⟩:=AG (AC r0_ jS);obtain⟨j0_,j1_,j2_,j3_,j4_,j5_,j6_,j7_⟩:=AJ (AC r1_ jS);have l0_:=AB jS e0_;have l1_:=AB jS e1_;have l2_:=AB jS e2_;go_simp<;>rfl)
    try simp only [zS]
    refine tk 5 jH ?_ (hy:=λx jS=>by obtain⟨Dl,-⟩:=AG (AC r0_ jS);obtain⟨j0_,j1_,j2_,j3_,j4_,j5_,j6_,j7_⟩:=AJ (AC r1_ jS);have l0_:=AB jS e0_;have l1_:=AB jS e1_;have l2_:=AB jS e2_;go_simp<;>rfl)
    try simp only [zS]
    refine rd 6 (λK hK=>?_);go_simp;refine(HCH.out _ (AA hb01 jH)).mono ?_;rintro e w9 hC9;obtain⟨g9,c9,S,rfl,k1_,k2_,k3_,k4_,k5_,k6_,hb9⟩:=hC9;have hsv9:=jH.size;refine hK.out _ _ (AA jH hb9) (λjH=>?_);clear hK K;try simp only [zS]
    refine tk 7 jH ?_;try simp only [zS];refine tk 8 jH ?_;try simp only [zS];refine tk 9 jH ?_;refine tk 10 jH ?_;try simp only [zS];refine tk 11 jH ?_
    try simp only [zS]
    refine VP (by kernel_rfl) ?_ _;have hres9:=AC r2_ jH;have hT9:=AC (AC hcT hb01) jH;have m2_:=(ε _ _ (j * 3+2) _ _ _ hT9).trans ce2;have mf2_:=ζ _ _ (j * 3+2) _ _ hT9;have hdb9:=AC r0_ jH;obtain⟨q0_,-⟩:=AG hdb9;have hdb9':(w9.setCell ⟨g,j * 3+2,ν⟩ (σ (ς ⟨g9,0,ν⟩) S.length c9)).heap[w.heap.size]?=ς (γ #[σ (ς ⟨g,0,ν⟩) n n] 28 (0,0)):=Af hdb9 (by omega);have hres9':(w9.setCell ⟨g,j * 3+2,ν⟩ (σ (ς ⟨g9,0,ν⟩) S.length c9)).heap[w.heap.size+1+1]?=ς (γ #[σ ν 0 0] 28 (0,0)):=Af hres9 (by omega);obtain⟨qq0_,-⟩:=AG hdb9';obtain⟨o0_,of_⟩:=AG hres9';go_wp2;refine VE (AE Tryz.results29 _ _ (w.heap.size+1+1) 28 _ (0,0) _ rfl (BW hres9' _) Tryz.underlying28 rfl (by kernel_rfl)) rfl ?_;rw [HA.out];have hsz1:=hb1.size;rw [hs3] at hsz1;obtain⟨h1,h2,h4,h3⟩:=Qj (B:=w1.heap.size) (c9:=c9) (rows:=rwj) (hDb.later (AA hb01 jH)) hAl hj HTO.out (λb hb=>Nat.lt_of_lt_of_le (hDb.2 b hb).2 hb01.size) (by omega) k2_ k3_ k4_ (λr hr=>by rw [HTJ.out];exact k5_ r hr) (k6_ trivial) (k1_ trivial);have hlT:((Ap T n).take j ++ CA (T j).s (T j).n (T j).C rwj :: (Ap T n).drop (j+1)).length=n:=by simp [AY];omega
    refine⟨g,n,_,by rw [hlT];rfl,h1.allN (BlkX.set (w.heap.size+1+1) 0 _ _) (λhm=>?_),by rw [hlT,h2],λi hi=>h3 i (by rw [←hlT];exact hi),?_⟩
    ·
     rcases h4 _ hm with z | z
     · have:=(hDb.2 _ z).2;omega
     · omega
    · exact(((AA hb01 jH).mono hlo).setCell (hDb.2 g List.mem_cons_self).1 _).setCell (show lo<=w.heap.size+1+1 by omega) _
