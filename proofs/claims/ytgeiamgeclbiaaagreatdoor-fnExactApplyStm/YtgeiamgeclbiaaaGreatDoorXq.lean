import Derived.Test.YtgeiamgeclbiaaaGreatDoorXn
namespace Go.Proofs.YtgeiamgeclbiaaaGreatDoor
open Go.RowKit Go.Maps Go.WideMaps
def Kt(t:Int)(x:Rw):Prop:=goodV (x.2 0)/\(x.2 0).o=t
structure KeyW(t:Int)(key:Rw->Lit)(le:Ro->Ro->Bool):Prop where
 same:∀ x y,Kt t x->Kt t y->((key x).sameKey (key y)=true↔keyC x y=0)
 le:∀ p q:Ro,Kt t p.x->Kt t q.x->(le p q=true↔keyC p.x q.x<=0)
theorem kc_eq{t:Int}{x y:Rw}(hx:Kt t x)(hy:Kt t y):keyC x y=0↔(x.2 0).m=(y.2 0).m/\(x.2 0).s=(y.2 0).s:=by
 have:=cmp_eq hx.1 hy.1 (hx.2.trans hy.2.symm);unfold keyC;exact decide_eq_decide.1 this
theorem kc_lt{t:Int}{x y:Rw}(hx:Kt t x)(hy:Kt t y):keyC x y<0↔lesB t (x.2 0).m (x.2 0).s (y.2 0).m (y.2 0).s=true:=by
 have h:=cmp_lt hx.1 hy.1 (hx.2.trans hy.2.symm);rw [hx.2] at h;unfold keyC;rw [←h];simp
theorem Kt.one{x:Rw}(h:Kt 1 x):(x.2 0).s=⟨#[]⟩:=by
 obtain⟨⟨-,h1⟩ | ⟨h1,-⟩,h2⟩:=h
 · exact h1
 · omega
theorem Kt.two{t:Int}{x:Rw}(h:Kt t x)(ht:¬t=1):(x.2 0).m=0:=by
 obtain⟨⟨h1,-⟩ | ⟨-,h1⟩,h2⟩:=h
 · omega
 · exact h1
theorem keyI:KeyW 1 kI leRI:=by
 refine⟨fun x y hx hy=>?_,fun p q hp hq=>?_⟩
 · rw [kc_eq hx hy,hx.one,hy.one];simp [kI,Lit.sameKey]
 ·
  have h1:=kc_eq hp hq;have h2:=kc_lt hp hq;rw [hp.one,hq.one] at h1;simp only [lesB,if_pos,decide_eq_true_eq,and_true] at h1 h2
  simp only [leRI,decide_eq_true_eq]
  omega
theorem keyS{t:Int}(ht:¬t=1):KeyW t kS leRS:=by
 refine⟨fun x y hx hy=>?_,fun p q hp hq=>?_⟩
 ·
  rw [kc_eq hx hy,hx.two ht,hy.two ht];simp only [kS,Lit.sameKey,beq_iff_eq,true_and]
  exact⟨fun e=>bytes_inj2 (by rw [ByteArray.toList_eq,ByteArray.toList_eq];exact e),fun e=>by rw [e]⟩
 ·
  have h1:=kc_eq hp hq;have h2:=kc_lt hp hq;rw [hp.two ht,hq.two ht] at h1;unfold lesB at h2;rw [if_neg ht,bytesLess_eq,ByteArray.toList_eq,ByteArray.toList_eq] at h2;simp only [decide_eq_true_eq,true_and] at h1 h2
  simp only [leRS,decide_eq_true_eq]
  constructor
  ·
   intro h;by_cases e:(p.x.2 0).s.data.toList=(q.x.2 0).s.data.toList
   · have:=h1.2 (bytes_inj2 (by rw [ByteArray.toList_eq,ByteArray.toList_eq];exact e));omega
   ·
    have hlt:(p.x.2 0).s.data.toList<(q.x.2 0).s.data.toList:=by
     rcases hb:Op.bytesLess (p.x.2 0).s.data.toList (q.x.2 0).s.data.toList with _ | _
     · have z:=less_tot _ _ hb e;rw [bytesLess_eq,decide_eq_true_eq] at z;exact absurd z (List.not_lt.2 h)
     · rw [bytesLess_eq,decide_eq_true_eq] at hb;exact hb
    have:=h2.2 hlt;omega
  ·
   intro h;by_cases e:keyC p.x q.x=0
   · rw [h1.1 e];exact List.le_refl _
   · exact List.le_of_lt (h2.1 (by omega))
theorem kc_self{t:Int}{x:Rw}(hx:Kt t x):keyC x x=0:=(kc_eq hx hx).2 ⟨rfl,rfl⟩
theorem kc_symm{t:Int}{x y:Rw}(hx:Kt t x)(hy:Kt t y)(h:keyC x y=0):keyC y x=0:=by
 obtain⟨h1,h2⟩:=(kc_eq hx hy).1 h;exact(kc_eq hy hx).2 ⟨h1.symm,h2.symm⟩
theorem kc_tri{t:Int}{x y:Rw}(hx:Kt t x)(hy:Kt t y):(keyC x y<0/\0<keyC y x)∨(keyC x y=0/\keyC y x=0)∨(0<keyC x y/\keyC y x<0):=by
 have e1:=kc_eq hx hy;have e2:=kc_eq hy hx;have l1:=kc_lt hx hy;have l2:=kc_lt hy hx;by_cases ht:t=1
 ·
  subst ht;rw [hx.one,hy.one] at e1 e2;simp only [lesB,if_pos,decide_eq_true_eq,and_true] at e1 e2 l1 l2
  omega
 ·
  rw [hx.two ht,hy.two ht] at e1 e2;unfold lesB at l1 l2;rw [if_neg ht] at l1 l2;simp only [true_and] at e1 e2
  rcases h:Op.bytesLess (x.2 0).s.toList (y.2 0).s.toList with _ | _
  ·
   rw [h] at l1;by_cases e:(x.2 0).s=(y.2 0).s
   · exact Or.inr (Or.inl ⟨e1.2 e,e2.2 e.symm⟩)
   ·
    have h2:=less_tot _ _ h (fun z=>e (bytes_inj2 z));have a1:=l2.2 h2;have a2:¬keyC x y<0:=fun z=>by have:=l1.1 z;cases this
    have a3:¬keyC x y=0:=fun z=>e (e1.1 z);omega
  ·
   have a1:=l1.2 h;have h2:=less_anti h;rw [h2] at l2;have a2:¬keyC y x<0:=fun z=>by have:=l2.1 z;cases this
   have a3:¬keyC y x=0:=fun z=>by
    have:=e2.1 z;rw [this,less_irr2] at h;cases h
   omega
theorem kc_trans{t:Int}{x y z:Rw}(hx:Kt t x)(hy:Kt t y)(hz:Kt t z)(h1:keyC x y<0)(h2:keyC y z<0):keyC x z<0:=by
 rw [kc_lt hx hy] at h1;rw [kc_lt hy hz] at h2;rw [kc_lt hx hz];unfold lesB at *;split at h1
 ·
  rename_i ht
  rw [if_pos ht] at h2 ⊢;simp only [decide_eq_true_eq] at *
  omega
 ·
  rename_i ht
  rw [if_neg ht] at h2 ⊢;exact less_trans _ _ _ h1 h2
theorem kc_congr{t:Int}{x y z:Rw}(hx:Kt t x)(hy:Kt t y)(h:keyC x y=0):keyC x z=keyC y z/\keyC z x=keyC z y:=by
 obtain⟨h1,h2⟩:=(kc_eq hx hy).1 h;unfold keyC;rw [h1,h2];exact⟨rfl,rfl⟩
theorem kc_trans_le{t:Int}{x y z:Rw}(hx:Kt t x)(hy:Kt t y)(hz:Kt t z)(h1:keyC x y<=0)(h2:keyC y z<=0):keyC x z<=0:=by
 by_cases e1:keyC x y=0
 · rw [(kc_congr (z:=z) hx hy e1).1];exact h2
 ·
  by_cases e2:keyC y z=0
  · rw [←(kc_congr (z:=x) hy hz e2).2];exact h1
  · have:=kc_trans hx hy hz (by omega) (by omega);omega
theorem kc_uniq{t:Int}{X Y:List Rw}(hX:∀ x∈X,Kt t x)(hp:X.Perm Y)(h1:X.Pairwise (fun x y=>keyC x y<0))(h2:Y.Pairwise (fun x y=>keyC x y<0)):X=Y:=by
 refine List.Perm.eq_of_pairwise (le:=fun x y=>keyC x y<0) (fun a b ha hb e1 e2=>?_) h1 h2 hp;have:=kc_tri (hX a ha) (hX b (hp.mem_iff.2 hb));omega
theorem sorted_map{t:Int}{key:Rw->Lit}{le:Ro->Ro->Bool}(hK:KeyW t key le){LL:List Ro}(hP:∀ r∈LL,Kt t r.x){Y:List Rw}(hp:(LL.map Ro.x).Perm Y)(hY:Y.Pairwise (fun x y=>keyC x y<0)):(LL.mergeSort le).map Ro.x=Y:=by
 have hpm:=List.mergeSort_perm LL le;have hP2:∀ x∈LL.map Ro.x,Kt t x:=fun x hx=>by
  obtain⟨r,hr,rfl⟩:=List.mem_map.1 hx;exact hP r hr
 have hpy:((LL.mergeSort le).map Ro.x).Perm Y:=(hpm.map _).trans hp;have hPm:∀ r∈LL.mergeSort le,Kt t r.x:=fun r hr=>hP r (hpm.mem_iff.1 hr);have hPS:∀ x∈(LL.mergeSort le).map Ro.x,Kt t x:=fun x hx=>hP2 x ((hpm.map _).mem_iff.1 hx)
 have hne:((LL.mergeSort le).map Ro.x).Pairwise (fun x y=>keyC x y≠0∨¬Kt t x∨¬Kt t y):=by
  refine(hpy.pairwise_iff (fun {x y} h=>?_)).2 (hY.imp (fun h=>Or.inl (by omega)));rcases h with h | h | h
  ·
   by_cases hx:Kt t x
   ·
    by_cases hy:Kt t y
    · exact Or.inl (fun e=>h (kc_symm hy hx e))
    · exact Or.inr (Or.inl hy)
   · exact Or.inr (Or.inr hx)
  · exact Or.inr (Or.inr h)
  · exact Or.inr (Or.inl h)
 have hle:(LL.mergeSort le).Pairwise (fun p q=>le p q=true∨¬Kt t p.x∨¬Kt t q.x):=by
  -- a sort by an order that is one on the rows of the list
  have hs:(LL.attach.mergeSort (fun a b=>le a.1 b.1)).Pairwise (fun a b=>le a.1 b.1=true):=by
   refine List.pairwise_mergeSort (fun a b c h1 h2=>?_) (fun a b=>?_) _
   · rw [hK.le _ _ (hP _ a.2) (hP _ b.2)] at h1;rw [hK.le _ _ (hP _ b.2) (hP _ c.2)] at h2;rw [hK.le _ _ (hP _ a.2) (hP _ c.2)];exact kc_trans_le (hP _ a.2) (hP _ b.2) (hP _ c.2) h1 h2
   · rw [Bool.or_eq_true,hK.le _ _ (hP _ a.2) (hP _ b.2),hK.le _ _ (hP _ b.2) (hP _ a.2)];have:=kc_tri (hP _ a.2) (hP _ b.2);omega
  have hm:(LL.attach.mergeSort (fun a b=>le a.1 b.1)).map Subtype.val=LL.mergeSort le:=by
   rw [List.map_mergeSort (s:=le) (fun a _ b _=>rfl),List.attach_map_subtype_val]
  rw [←hm,List.pairwise_map];exact hs.imp (fun h=>Or.inl h)
 refine kc_uniq hPS hpy ?_ hY;rw [List.pairwise_map] at hne ⊢;refine(hle.and hne).imp_of_mem (fun {p q} hp hq h=>?_);have hx:=hPm p hp;have hy:=hPm q hq;obtain⟨h1,h2⟩:=h;have h1':=(hK.le _ _ hx hy).1 (by rcases h1 with h | h | h;exact h;exact absurd hx h;exact absurd hy h);have h2':keyC p.x q.x≠0:=by rcases h2 with h | h | h;exact h;exact absurd hx h;exact absurd hy h
 omega
def rwL(r:Nat)(m:Nat->Nat)(R:Nat->Nat->Itm):List Rw:=(List.range r).map (fun i=>(m i,R i))
theorem rwL_len(r:Nat)(m:Nat->Nat)(R:Nat->Nat->Itm):(rwL r m R).length=r:=by simp [rwL]
theorem rwL_succ(r:Nat)(m:Nat->Nat)(R:Nat->Nat->Itm):rwL (r+1) m R=rwL r m R ++ [(m r,R r)]:=by unfold rwL;rw [List.range_succ,List.map_append];rfl
theorem rwL_mem{r:Nat}{m:Nat->Nat}{R:Nat->Nat->Itm}{x:Rw}(h:x∈rwL r m R):∃ i,i<r/\x=(m i,R i):=by
 obtain⟨i,hi,rfl⟩:=List.mem_map.1 h;exact⟨i,List.mem_range.1 hi,rfl⟩
structure Sd(t:Int)(r:Nat)(m:Nat->Nat)(R:Nat->Nat->Itm):Prop where
 kt:∀ i,i<r->Kt t (m i,R i)
 lt:∀ i j,i<j->j<r->keyC (m i,R i) (m j,R j)<0
theorem Sd.pw{t:Int}{r:Nat}{m:Nat->Nat}{R:Nat->Nat->Itm}(h:Sd t r m R):(rwL r m R).Pairwise (fun x y=>keyC x y<0):=by
 unfold rwL;rw [List.pairwise_map];exact List.Pairwise.imp_of_mem (R:=fun i j=>i<j) (fun {i j} hi hj hij=>h.lt i j hij (List.mem_range.1 hj)) List.pairwise_lt_range
theorem Sd.all{t:Int}{r:Nat}{m:Nat->Nat}{R:Nat->Nat->Itm}(h:Sd t r m R):∀ x∈rwL r m R,Kt t x:=fun x hx=>by
 obtain⟨i,hi,rfl⟩:=rwL_mem hx;exact h.kt i hi
theorem Sd.of{d:Td}(h:okTd d=true):Sd (d.C 0).t d.r d.m d.R:=by
 have hg:=okTd_good h;obtain⟨-,hn,-,-,-,h6⟩:=okTd_out h;have hkt:∀ i,i<d.r->Kt (d.C 0).t (d.m i,d.R i):=fun i hi=>⟨(hg i hi 0 hn).2.1,(hg i hi 0 hn).2.2⟩;refine⟨hkt,fun i j hij=>?_⟩;obtain⟨k,rfl⟩:∃ k,j=i+1+k:=⟨j - (i+1),by omega⟩;have step:∀ q,q+1<d.r->keyC (d.m q,d.R q) (d.m (q+1),d.R (q+1))<0:=fun q hq=>by
  have z:=h6 (q+1) hq;unfold okRowAt at z;simp only [Bool.and_eq_true,Bool.or_eq_true,decide_eq_true_eq] at z
  rcases z.2 with z | z
  · omega
  ·
   unfold keyC cmpV;rw [show q+1 - 1=q from rfl] at z
   rw [if_pos z];omega
 induction k with
 | zero=>intro hj;exact step i hj
 | succ k ih=>
  intro hj;exact kc_trans (hkt i (by omega)) (hkt (i+1+k) (by omega)) (hkt _ hj) (ih (by omega) (by omega)) (step (i+1+k) hj)
def NK(key:Rw->Lit)(L:List Ro):Prop:=L.Pairwise (fun p q=>(key p.x).sameKey (key q.x)=false)
theorem addL_iff{key:Rw->Lit}:∀ {L' A:List Ro},NK key A->(((addL key A L').1=true↔NK key (A ++ L'))/\((addL key A L').1=true->(addL key A L').2=A ++ L'))
 | [],A,h=>by simp [addL,h]
 | r :: L',A,h=>by
  unfold addL;rcases hh:hasK key A (key r.x) with _ | _
  ·
   have hA:NK key (A ++ [r]):=by
    unfold NK;rw [List.pairwise_append];refine⟨h,List.pairwise_singleton _ _,fun p hp q hq=>?_⟩;rw [List.mem_singleton] at hq;subst hq;have:=List.any_eq_false.1 hh p hp;simpa using this
   have:=addL_iff (key:=key) (L':=L') hA;simp only [Bool.false_eq_true,if_false]
   rw [List.append_assoc,List.singleton_append] at this;exact this
  ·
   simp only [if_true,Bool.false_eq_true,false_iff]
   refine⟨fun hN=>?_,fun h=>h.elim⟩;obtain⟨p,hp,hs⟩:=List.any_eq_true.1 hh;have:=(List.pairwise_append.1 hN).2.2 p hp r List.mem_cons_self;rw [hs] at this;cases this
theorem delL_eq{key:Rw->Lit}:∀ {X:List Rw} {L:List Ro},delL key L X=L.filter (fun q=>X.all (fun x=>!(key q.x).sameKey (key x)))
 | [],L=>by simp only [delL,List.all_nil];exact(List.filter_eq_self.2 (fun _ _=>rfl)).symm
 | x :: X,L=>by
  rw [delL,delL_eq (X:=X)];unfold delK;rw [List.filter_filter];congr 1
  funext q
  rw [List.all_cons,Bool.and_comm]
theorem NK.of{t:Int}{key:Rw->Lit}{le:Ro->Ro->Bool}(hK:KeyW t key le){L:List Ro}(hP:∀ r∈L,Kt t r.x)(h:(L.map Ro.x).Pairwise (fun x y=>keyC x y≠0)):NK key L:=by
 rw [List.pairwise_map] at h;refine h.imp_of_mem (fun {p q} hp hq hne=>?_);rcases hs:(key p.x).sameKey (key q.x) with _ | _
 · rfl
 · exact absurd ((hK.same _ _ (hP p hp) (hP q hq)).1 hs) hne
theorem NK.to{t:Int}{key:Rw->Lit}{le:Ro->Ro->Bool}(hK:KeyW t key le){L:List Ro}(hP:∀ r∈L,Kt t r.x)(h:NK key L):(L.map Ro.x).Pairwise (fun x y=>keyC x y≠0):=by
 rw [List.pairwise_map];refine h.imp_of_mem (fun {p q} hp hq hne e=>?_);rw [(hK.same _ _ (hP p hp) (hP q hq)).2 e] at hne;cases hne
theorem kt_map{t:Int}{L:List Ro}{r:Nat}{m:Nat->Nat}{R:Nat->Nat->Itm}(hS:Sd t r m R)(hL:L.map Ro.x=rwL r m R):∀ q∈L,Kt t q.x:=fun q hq=>hS.all _ (by rw [←hL];exact List.mem_map_of_mem hq)
theorem add_rows{t:Int}{key:Rw->Lit}{le:Ro->Ro->Bool}(hK:KeyW t key le){L:List Ro}{r:Nat}{m:Nat->Nat}{R:Nat->Nat->Itm}(hS:Sd t r m R)(hL:L.map Ro.x=rwL r m R):addL key [] L=(true,L):=by
 have hN:NK key L:=NK.of hK (kt_map hS hL) (by rw [hL];exact hS.pw.imp (fun h=>by omega));have h:=addL_iff (key:=key) (L':=L) (A:=[]) List.Pairwise.nil;have h1:=h.1.2 hN;exact Prod.ext h1 (h.2 h1)
theorem put_at{t:Int}{r:Nat}{m:Nat->Nat}{R:Nat->Nat->Itm}(hS:Sd t r m R){x:Rw}(hx:Kt t x):∀ {k},k<=r->(∀ i,i<putN R (x.2 0).m (x.2 0).s k->keyC (m i,R i) x<0)/\(putN R (x.2 0).m (x.2 0).s k<k->¬keyC (m (putN R (x.2 0).m (x.2 0).s k),R (putN R (x.2 0).m (x.2 0).s k)) x<0)
 | 0,_=>by simp [putN]
 | k+1,hk=>by
  obtain⟨h1,h2⟩:=put_at hS hx (k:=k) (by omega);have hle:=putN_le (R:=R) (m:=(x.2 0).m) (s:=(x.2 0).s) (r:=k);rw [putN];split
  ·
   rename_i hc
   refine⟨fun i hi=>?_,fun h=>by omega⟩;by_cases e:i=k
   · subst e;exact hc.2
   · exact h1 i (by rw [hc.1];omega)
  ·
   rename_i hc
   refine⟨h1,fun _=>?_⟩;by_cases e:putN R (x.2 0).m (x.2 0).s k=k
   · intro h;rw [e] at h;exact hc ⟨e,h⟩
   · exact h2 (by omega)
theorem has_iff{t:Int}{key:Rw->Lit}{le:Ro->Ro->Bool}(hK:KeyW t key le){L:List Ro}{r:Nat}{m:Nat->Nat}{R:Nat->Nat->Itm}(hS:Sd t r m R)(hL:L.map Ro.x=rwL r m R){x:Rw}(hx:Kt t x):hasK key L (key x)=true↔∃ i,i<r/\keyC (m i,R i) x=0:=by
 unfold hasK;rw [List.any_eq_true];constructor
 ·
  rintro ⟨q,hq,hs⟩;have h1:=(hK.same _ _ (kt_map hS hL q hq) hx).1 hs;have h2:q.x∈rwL r m R:=by rw [←hL];exact List.mem_map_of_mem hq
  obtain⟨i,hi,e⟩:=rwL_mem h2;exact⟨i,hi,by rw [←e];exact h1⟩
 ·
  rintro ⟨i,hi,h⟩;have h2:(m i,R i)∈L.map Ro.x:=by rw [hL];exact List.mem_map.2 ⟨i,List.mem_range.2 hi,rfl⟩
  obtain⟨q,hq,e⟩:=List.mem_map.1 h2;refine⟨q,hq,(hK.same _ _ (kt_map hS hL q hq) hx).2 ?_⟩;rw [e];exact h
theorem hit_iff{t:Int}{r:Nat}{m:Nat->Nat}{R:Nat->Nat->Itm}(hS:Sd t r m R){x:Rw}(hx:Kt t x):(∃ i,i<r/\keyC (m i,R i) x=0)↔(putN R (x.2 0).m (x.2 0).s r<r/\cmpV (R (putN R (x.2 0).m (x.2 0).s r) 0).m (R (putN R (x.2 0).m (x.2 0).s r) 0).s (x.2 0).m (x.2 0).s=0):=by
 obtain⟨h1,h2⟩:=put_at hS hx (Nat.le_refl r);have hle:=putN_le (R:=R) (m:=(x.2 0).m) (s:=(x.2 0).s) (r:=r);generalize putN R (x.2 0).m (x.2 0).s r=p at h1 h2 hle ⊢;constructor
 ·
  rintro ⟨i,hi,h⟩;have hpi:p<=i:=by
   rcases Nat.lt_or_ge i p with z | z
   · have:=h1 i z;omega
   · exact z
  by_cases e:p=i
  · subst e;exact⟨hi,h⟩
  · have h3:=hS.lt p i (by omega) hi;rw [(kc_congr (z:=(m p,R p)) (hS.kt i hi) hx h).2] at h3;exact absurd h3 (h2 (by omega))
 · rintro ⟨hp,h⟩;exact⟨p,hp,h⟩
theorem putL_list{r:Nat}{m:Nat->Nat}{R:Nat->Nat->Itm}{x:Rw}{p:Nat}(hp:p<=r):(List.range (r+1)).map (putL m R x p)=(rwL r m R).take p ++ x :: (rwL r m R).drop p:=by
 apply List.ext_getElem?
 intro i;rw [List.getElem?_map];have hlt:((rwL r m R).take p).length=p:=by rw [List.length_take,rwL_len];omega
 by_cases hi:i<r+1
 ·
  rw [List.getElem?_range hi,Option.map_some];unfold putL;by_cases h1:i<p
  · rw [if_pos h1,List.getElem?_append_left (by omega),List.getElem?_take,if_pos h1];simp [rwL,show i<r by omega]
  ·
   by_cases h2:i=p
   · subst h2;rw [if_neg (by omega),if_pos rfl,List.getElem?_append_right (by omega),hlt];simp
   ·
    rw [if_neg h1,if_neg h2,List.getElem?_append_right (by omega),hlt,show i - p=i - p - 1+1 from by omega,List.getElem?_cons_succ,List.getElem?_drop,show p+(i - p - 1)=i - 1 from by omega]
    simp [rwL,show i - 1<r by omega]
 · rw [List.getElem?_eq_none (by simp;omega),List.getElem?_eq_none (by simp [rwL_len];omega)];rfl
theorem ins_rows{t:Int}{key:Rw->Lit}{le:Ro->Ro->Bool}(hK:KeyW t key le){L:List Ro}{r:Nat}{m:Nat->Nat}{R:Nat->Nat->Itm}(hS:Sd t r m R)(hL:L.map Ro.x=rwL r m R){q:Ro}(hx:Kt t q.x)(hno:¬∃ i,i<r/\keyC (m i,R i) q.x=0):((L ++ [q]).mergeSort le).map Ro.x=(List.range (r+1)).map (putL m R q.x (putN R (q.x.2 0).m (q.x.2 0).s r)):=by
 obtain⟨h1,h2⟩:=put_at hS hx (Nat.le_refl r);have hle:=putN_le (R:=R) (m:=(q.x.2 0).m) (s:=(q.x.2 0).s) (r:=r);generalize putN R (q.x.2 0).m (q.x.2 0).s r=p at h1 h2 hle ⊢;rw [putL_list hle];refine sorted_map hK (fun z hz=>?_) ?_ ?_
 ·
  rcases List.mem_append.1 hz with h | h
  · exact kt_map hS hL z h
  · rw [List.mem_singleton] at h;subst h;exact hx
 · rw [List.map_append,hL,List.map_singleton];refine(List.perm_append_singleton _ _).trans ?_;have:=List.perm_middle (a:=q.x) (l₁:=(rwL r m R).take p) (l₂:=(rwL r m R).drop p);rw [List.take_append_drop] at this;exact this.symm
 ·
  have hpw:=hS.pw;rw [←List.take_append_drop p (rwL r m R),List.pairwise_append] at hpw;rw [List.pairwise_append];refine⟨hpw.1,?_,fun a ha b hb=>?_⟩
  ·
   rw [List.pairwise_cons];refine⟨fun b hb=>?_,hpw.2.1⟩;obtain⟨i,hi⟩:=List.getElem?_of_mem hb;rw [List.getElem?_drop] at hi;have hir:p+i<r:=by
    have:=(List.getElem?_eq_some_iff.1 hi).1;rwa [rwL_len] at this
   have e:b=(m (p+i),R (p+i)):=by
    simp [rwL,hir] at hi
    exact hi.symm
   subst e;have h3:¬keyC (m (p+i),R (p+i)) q.x<0:=fun z=>by
    by_cases e0:i=0
    · subst e0;exact h2 (by omega) z
    · exact h2 (by omega) (kc_trans (hS.kt p (by omega)) (hS.kt _ hir) hx (hS.lt p (p+i) (by omega) hir) z)
   have h4:¬keyC (m (p+i),R (p+i)) q.x=0:=fun z=>hno ⟨_,hir,z⟩;have:=kc_tri (hS.kt _ hir) hx;omega
  ·
   rcases List.mem_cons.1 hb with h | h
   ·
    subst h;obtain⟨i,hi⟩:=List.getElem?_of_mem ha;rw [List.getElem?_take] at hi;split at hi
    ·
     rename_i hip
     have e:a=(m i,R i):=by
      simp [rwL,show i<r by omega] at hi
      exact hi.symm
     subst e;exact h1 i hip
    · cases hi
   · exact hpw.2.2 a ha b h
theorem ftS_rw(C:Nat->Clm)(n:Nat)(m:Nat->Nat)(R:Nat->Nat->Itm)(W:Nat->Itm)(n6:Nat):∀ k,ftS C n m R W n6 k=(rwL k m R).filter (fun x=>fitB C n x.2 W n6)
 | 0=>rfl
 | k+1=>by
  rw [ftS,ftS_rw C n m R W n6 k,rwL_succ,List.filter_append];rcases hf:fitB C n (R k) W n6 with _ | _ <;> simp [opt,hf]
theorem dlS_rw(C:Nat->Clm)(n:Nat)(m:Nat->Nat)(R:Nat->Nat->Itm)(W:Nat->Itm)(n6:Nat):∀ k,dlS C n m R W n6 k=(rwL k m R).filter (fun x=>!fitB C n x.2 W n6)
 | 0=>rfl
 | k+1=>by
  rw [dlS,dlS_rw C n m R W n6 k,rwL_succ,List.filter_append];rcases hf:fitB C n (R k) W n6 with _ | _ <;> simp [opt,hf]
theorem chS_rw(C:Nat->Clm)(n:Nat)(m:Nat->Nat)(R:Nat->Nat->Itm)(q:Nat)(E:Nat->Itm)(n5:Nat)(W:Nat->Itm)(n6:Nat):∀ k,chS C n m R q E n5 W n6 k=(rwL k m R).map (fun x=>if fitB C n x.2 W n6=true then chF C n q E n5 x else x)
 | 0=>rfl
 | k+1=>by
  rw [chS,chS_rw C n m R q E n5 W n6 k,rwL_succ,List.map_append];congr 1
  simp only [List.map_cons,List.map_nil]
  split <;> rfl
theorem bigS_any(C:Nat->Clm)(n:Nat)(m:Nat->Nat)(R:Nat->Nat->Itm)(E:Nat->Itm)(n5:Nat)(W:Nat->Itm)(n6:Nat):∀ k,bigS C n R E n5 W n6 k=(ftS C n m R W n6 k).any (bgF C n E n5)
 | 0=>rfl
 | k+1=>by
  rw [bigS,bigS_any C n m R E n5 W n6 k,ftS,List.any_append];unfold opt;cases fitB C n (R k) W n6 <;> simp [bgF]
theorem mem_uniq{t:Int}{r:Nat}{m:Nat->Nat}{R:Nat->Nat->Itm}(hS:Sd t r m R){x y:Rw}(hx:x∈rwL r m R)(hy:y∈rwL r m R)(h:keyC x y=0):x=y:=by
 obtain⟨i,hi,rfl⟩:=rwL_mem hx;obtain⟨j,hj,rfl⟩:=rwL_mem hy;rcases Nat.lt_trichotomy i j with z | z | z
 · have:=hS.lt i j z hj;omega
 · subst z;rfl
 · have:=hS.lt j i z hi;have:=kc_symm (hS.kt i hi) (hS.kt j hj) h;omega
theorem del_map{t:Int}{key:Rw->Lit}{le:Ro->Ro->Bool}(hK:KeyW t key le){L:List Ro}{r:Nat}{m:Nat->Nat}{R:Nat->Nat->Itm}(hS:Sd t r m R)(hL:L.map Ro.x=rwL r m R)(f:Rw->Bool):(delL key L ((rwL r m R).filter f)).map Ro.x=(rwL r m R).filter (fun x=>!f x):=by
 rw [delL_eq];conv=>rhs;rw [←hL,List.filter_map]
 congr 1
 refine List.filter_congr (fun q hq=>?_);have hqm:q.x∈rwL r m R:=by rw [←hL];exact List.mem_map_of_mem hq
 show _=!f q.x
 rcases hf:f q.x with _ | _
 ·
  rw [List.all_eq_true.2]
  · rfl
  ·
   intro x hx;rw [List.mem_filter] at hx;rcases hs:(key q.x).sameKey (key x) with _ | _
   · rfl
   · have:=mem_uniq hS hqm hx.1 ((hK.same _ _ (hS.all _ hqm) (hS.all _ hx.1)).1 hs);rw [this] at hf;rw [hf] at hx;cases hx.2
 · rw [List.all_eq_false.2 ⟨q.x,List.mem_filter.2 ⟨hqm,hf⟩,by rw [(hK.same _ _ (hS.all _ hqm) (hS.all _ hqm)).2 (kc_self (hS.all _ hqm))];simp⟩];rfl
theorem del_rows{t:Int}{key:Rw->Lit}{le:Ro->Ro->Bool}(hK:KeyW t key le){L:List Ro}{r:Nat}{m:Nat->Nat}{R:Nat->Nat->Itm}(hS:Sd t r m R)(hL:L.map Ro.x=rwL r m R)(C:Nat->Clm)(n:Nat)(W:Nat->Itm)(n6:Nat):((delL key L (ftS C n m R W n6 r)).mergeSort le).map Ro.x=dlS C n m R W n6 r:=by
 have hm:=del_map hK hS hL (fun x=>fitB C n x.2 W n6);rw [ftS_rw,dlS_rw];refine sorted_map hK (fun q hq=>?_) (by rw [hm]) (hS.pw.filter _);have:q.x∈(delL key L ((rwL r m R).filter (fun x=>fitB C n x.2 W n6))).map Ro.x:=List.mem_map_of_mem hq;rw [hm] at this;exact hS.all _ (List.mem_filter.1 this).1
theorem keep_rows{t:Int}{key:Rw->Lit}{le:Ro->Ro->Bool}(hK:KeyW t key le){L:List Ro}{r:Nat}{m:Nat->Nat}{R:Nat->Nat->Itm}(hS:Sd t r m R)(hL:L.map Ro.x=rwL r m R):(L.mergeSort le).map Ro.x=rwL r m R:=
 sorted_map hK (kt_map hS hL) (by rw [hL]) hS.pw
theorem mgF_perm:∀ (s:Nat) (a b:List Rw),a.length+b.length=s->(mgF s a b).Perm (a ++ b)
 | 0,a,b,h=>by
  obtain rfl:a=[]:=List.eq_nil_of_length_eq_zero (by omega);obtain rfl:b=[]:=List.eq_nil_of_length_eq_zero (by simpa using h);exact List.Perm.refl _
 | _+1,[],[],h=>by simp at h
 | s+1,x :: a,[],h=>by
  rw [mgF];exact(mgF_perm s a [] (by simp at h ⊢;omega)).cons x
 | s+1,[],y :: b,h=>by
  rw [mgF];exact(mgF_perm s [] b (by simp at h ⊢;omega)).cons y
 | s+1,x :: a,y :: b,h=>by
  rw [mgF];split
  · exact(mgF_perm s a (y :: b) (by simp at h ⊢;omega)).cons x
  · refine((mgF_perm s (x :: a) b (by simp at h ⊢;omega)).cons y).trans ?_;exact(List.perm_middle (a:=y) (l₁:=x :: a) (l₂:=b)).symm
theorem mgF_sorted{t:Int}:∀ (s:Nat) (a b:List Rw),a.length+b.length=s->(∀ x∈a,Kt t x)->(∀ x∈b,Kt t x)->a.Pairwise (fun x y=>keyC x y<=0)->b.Pairwise (fun x y=>keyC x y<=0)->(mgF s a b).Pairwise (fun x y=>keyC x y<=0)
 | 0,_,_,_,_,_,_,_=>List.Pairwise.nil
 | _+1,[],[],_,_,_,_,_=>List.Pairwise.nil
 | s+1,x :: a,[],h,ha,hb,pa,pb=>by
  rw [mgF,List.pairwise_cons];rw [List.pairwise_cons] at pa;have hp:=mgF_perm s a [] (by simp at h ⊢;omega);refine⟨fun z hz=>pa.1 z (by have:=hp.mem_iff.1 hz;simpa using this),mgF_sorted s a [] (by simp at h ⊢;omega) (fun z hz=>ha z (List.mem_cons_of_mem _ hz)) hb pa.2 pb⟩
 | s+1,[],y :: b,h,ha,hb,pa,pb=>by
  rw [mgF,List.pairwise_cons];rw [List.pairwise_cons] at pb;have hp:=mgF_perm s [] b (by simp at h ⊢;omega);refine⟨fun z hz=>pb.1 z (by have:=hp.mem_iff.1 hz;simpa using this),mgF_sorted s [] b (by simp at h ⊢;omega) ha (fun z hz=>hb z (List.mem_cons_of_mem _ hz)) pa pb.2⟩
 | s+1,x :: a,y :: b,h,ha,hb,pa,pb=>by
  have hx:=ha x List.mem_cons_self;have hy:=hb y List.mem_cons_self;have pa':=List.pairwise_cons.1 pa;have pb':=List.pairwise_cons.1 pb;rw [mgF];split
  ·
   rename_i hle
   rw [List.pairwise_cons];have hp:=mgF_perm s a (y :: b) (by simp at h ⊢;omega);refine⟨fun z hz=>?_,mgF_sorted s a (y :: b) (by simp at h ⊢;omega) (fun z hz=>ha z (List.mem_cons_of_mem _ hz)) hb pa'.2 pb⟩;rcases List.mem_append.1 (hp.mem_iff.1 hz) with h | h
   · exact pa'.1 z h
   ·
    rcases List.mem_cons.1 h with h | h
    · subst h;exact hle
    · exact kc_trans_le hx hy (hb z (List.mem_cons_of_mem _ h)) hle (pb'.1 z h)
  ·
   rename_i hgt
   rw [List.pairwise_cons];have hp:=mgF_perm s (x :: a) b (by simp at h ⊢;omega);have hyx:keyC y x<=0:=by have:=kc_tri hx hy;omega
   refine⟨fun z hz=>?_,mgF_sorted s (x :: a) b (by simp at h ⊢;omega) ha (fun z hz=>hb z (List.mem_cons_of_mem _ hz)) pa pb'.2⟩;rcases List.mem_append.1 (hp.mem_iff.1 hz) with h | h
   ·
    rcases List.mem_cons.1 h with h | h
    · subst h;exact hyx
    · exact kc_trans_le hy hx (ha z (List.mem_cons_of_mem _ h)) hyx (pa'.1 z h)
   · exact pb'.1 z h
theorem srt_perm:∀ (f:Nat) (L:List Rw),(srt f L).Perm L
 | 0,_=>List.Perm.refl _
 | f+1,L=>by
  rw [srt];split
  · exact List.Perm.refl _
  ·
   have h1:=srt_perm f (L.take (L.length / 2));have h2:=srt_perm f (L.drop (L.length / 2));refine(mgF_perm _ _ _ ?_).trans ?_
   · rw [srt_len,srt_len,List.length_take,List.length_drop];omega
   · exact(h1.append h2).trans (by rw [List.take_append_drop])
theorem srt_sorted{t:Int}:∀ (f:Nat) (L:List Rw),L.length<=f+1->(∀ x∈L,Kt t x)->(srt f L).Pairwise (fun x y=>keyC x y<=0)
 | 0,L,h,_=>by
  rw [srt];match L,h with
  | [],_=>exact List.Pairwise.nil
  | [x],_=>exact List.pairwise_singleton _ _
 | f+1,L,h,hP=>by
  rw [srt];split
  ·
   rename_i h2
   match L,h2 with
   | [],_=>exact List.Pairwise.nil
   | [x],_=>exact List.pairwise_singleton _ _
  ·
   rename_i h2
   refine mgF_sorted _ _ _ (by rw [srt_len,srt_len,List.length_take,List.length_drop];omega) (fun x hx=>hP x (List.mem_of_mem_take ((srt_perm f _).mem_iff.1 hx))) (fun x hx=>hP x (List.mem_of_mem_drop ((srt_perm f _).mem_iff.1 hx))) ?_ ?_
   · exact srt_sorted f _ (by rw [List.length_take];omega) (fun x hx=>hP x (List.mem_of_mem_take hx))
   · exact srt_sorted f _ (by rw [List.length_drop];omega) (fun x hx=>hP x (List.mem_of_mem_drop hx))
theorem dup_false{A:List Rw}:∀ {k:Nat},dupB A k=false->∀ i,i+1<k->keyC (A.getD i r0) (A.getD (i+1) r0)≠0
 | 0,_,i,hi=>by omega
 | k+1,h,i,hi=>by
  rw [dupB,Bool.or_eq_false_iff] at h;by_cases e:i+1=k
  ·
   subst e;have:=h.2;simp at this
   exact this
  · exact dup_false h.1 i (by omega)
theorem dup_true{A:List Rw}:∀ {k:Nat},dupB A k=true->∃ i,i+1<k/\keyC (A.getD i r0) (A.getD (i+1) r0)=0
 | 0,h=>by cases h
 | k+1,h=>by
  rw [dupB,Bool.or_eq_true] at h;rcases h with h | h
  · obtain⟨i,hi,e⟩:=dup_true h;exact⟨i,by omega,e⟩
  ·
   simp only [Bool.and_eq_true,decide_eq_true_eq] at h
   exact⟨k - 1,by omega,by rw [show k - 1+1=k from by omega];exact h.2⟩
theorem strict_of{t:Int}{A:List Rw}(hP:∀ x∈A,Kt t x)(hs:A.Pairwise (fun x y=>keyC x y<=0)):dupB A A.length=false↔A.Pairwise (fun x y=>keyC x y<0):=by
 have hg:∀ i,i<A.length->A.getD i r0∈A:=fun i hi=>getD_mem hi;have hle:∀ i j,i<j->j<A.length->keyC (A.getD i r0) (A.getD j r0)<=0:=fun i j hij hj=>by
  have:=List.pairwise_iff_getElem.1 hs i j (by omega) hj hij;simpa [show i<A.length by omega,hj] using this
 constructor
 ·
  intro hd;rw [List.pairwise_iff_getElem];intro i j hi hj hij;have h1:=dup_false hd i (by omega);have h2:=hle i (i+1) (by omega) (by omega);have goal:keyC (A.getD i r0) (A.getD j r0)<0:=by
   by_cases e:j=i+1
   · subst e;omega
   ·
    have h3:=hle (i+1) j (by omega) hj;have h4:=hle i j hij hj;have h5:keyC (A.getD i r0) (A.getD j r0)≠0:=fun z=>by
     have a:=hP _ (hg i hi);have b:=hP _ (hg (i+1) (by omega));have c:=hP _ (hg j hj);rw [(kc_congr (z:=A.getD (i+1) r0) a c z).1] at h2 h1;have:=kc_tri b c;omega
    omega
  simpa [hi,hj] using goal
 ·
  intro hp;rcases hd:dupB A A.length with _ | _
  · rfl
  ·
   obtain⟨i,hi,e⟩:=dup_true hd;have:=List.pairwise_iff_getElem.1 hp i (i+1) (by omega) hi (by omega);simp [show i<A.length by omega,hi] at e this
   omega
theorem split_perm(f:Rw->Bool)(g:Rw->Rw):∀ X:List Rw,(X.filter (fun x=>!f x) ++ (X.filter f).map g).Perm (X.map (fun x=>if f x=true then g x else x))
 | []=>List.Perm.refl _
 | x :: X=>by
  have ih:=split_perm f g X;rcases h:f x with _ | _
  ·
   simp only [List.filter_cons,h,Bool.not_false,if_true,Bool.false_eq_true,if_false,List.cons_append,List.map_cons]
   exact ih.cons x
  ·
   simp only [List.filter_cons,h,Bool.not_true,Bool.false_eq_true,if_false,if_true,List.map_cons]
   exact(List.perm_middle).trans (ih.cons _)
theorem up_rows{t:Int}{key:Rw->Lit}{le:Ro->Ro->Bool}(hK:KeyW t key le){L Cs:List Ro}{r:Nat}{m:Nat->Nat}{R:Nat->Nat->Itm}(hS:Sd t r m R)(hL:L.map Ro.x=rwL r m R)(C:Nat->Clm)(n q:Nat)(E:Nat->Itm)(n5:Nat)(W:Nat->Itm)(n6:Nat)(hf:∀ x∈ftS C n m R W n6 r,Kt t (chF C n q E n5 x))(hC:Cs.map Ro.x=(ftS C n m R W n6 r).map (chF C n q E n5)) :
 ((addL key (delL key L (ftS C n m R W n6 r)) Cs).1=true↔dupB (upRows n C r m R q E n5 W n6) r=false)/\((addL key (delL key L (ftS C n m R W n6 r)) Cs).1=true->((addL key (delL key L (ftS C n m R W n6 r)) Cs).2.mergeSort le).map Ro.x=upRows n C r m R q E n5 W n6):=by
 have hm:=del_map hK hS hL (fun x=>fitB C n x.2 W n6);rw [←ftS_rw] at hm;have hPd:∀ p∈delL key L (ftS C n m R W n6 r),Kt t p.x:=fun p hp=>kt_map hS hL p (delL_mem hp);have hPc:∀ p∈Cs,Kt t p.x:=fun p hp=>by
  have:p.x∈Cs.map Ro.x:=List.mem_map_of_mem hp;rw [hC] at this;obtain⟨x,hx,e⟩:=List.mem_map.1 this;rw [←e];exact hf x hx
 have hPa:∀ p∈delL key L (ftS C n m R W n6 r) ++ Cs,Kt t p.x:=fun p hp=>by
  rcases List.mem_append.1 hp with h | h
  · exact hPd p h
  · exact hPc p h
 have hND:NK key (delL key L (ftS C n m R W n6 r)):=NK.of hK hPd (by rw [hm];exact(hS.pw.filter _).imp (fun h=>by omega));have hadd:=addL_iff (key:=key) (L':=Cs) hND;have hlen:(upRows n C r m R q E n5 W n6).length=r:=by unfold upRows;rw [srt_len,chS_len]
 have hperm:((delL key L (ftS C n m R W n6 r) ++ Cs).map Ro.x).Perm (upRows n C r m R q E n5 W n6):=by
  refine List.Perm.trans ?_ (srt_perm _ _).symm;rw [List.map_append,hm,hC,chS_rw,ftS_rw];exact split_perm _ _ _
 have hPu:∀ x∈upRows n C r m R q E n5 W n6,Kt t x:=fun x hx=>by
  obtain⟨p,hp,rfl⟩:=List.mem_map.1 (hperm.mem_iff.2 hx);exact hPa p hp
 have hsrt:(upRows n C r m R q E n5 W n6).Pairwise (fun x y=>keyC x y<=0):=srt_sorted r _ (by rw [chS_len];omega) (fun x hx=>hPu x ((srt_perm _ _).mem_iff.2 hx));have hst:=strict_of hPu hsrt;rw [hlen] at hst;have hiff:NK key (delL key L (ftS C n m R W n6 r) ++ Cs)↔(upRows n C r m R q E n5 W n6).Pairwise (fun x y=>keyC x y<0):=by
  have hsy:∀ {x y:Rw},(keyC x y≠0∨¬Kt t x∨¬Kt t y)->(keyC y x≠0∨¬Kt t y∨¬Kt t x):=fun {x y} h=>by
   rcases h with h | h | h
   ·
    by_cases hx:Kt t x
    ·
     by_cases hy:Kt t y
     · exact Or.inl (fun e=>h (kc_symm hy hx e))
     · exact Or.inr (Or.inl hy)
    · exact Or.inr (Or.inr hx)
   · exact Or.inr (Or.inr h)
   · exact Or.inr (Or.inl h)
  constructor
  ·
   intro hN;have h1:=(hN.to hK hPa).imp (S:=fun x y=>keyC x y≠0∨¬Kt t x∨¬Kt t y) (fun h=>Or.inl h);have h2:=(hperm.pairwise_iff hsy).1 h1;refine(hsrt.and h2).imp_of_mem (fun {x y} hx hy h=>?_);obtain⟨a,b⟩:=h;have:keyC x y≠0:=by rcases b with b | b | b;exact b;exact absurd (hPu x hx) b;exact absurd (hPu y hy) b
   omega
  ·
   intro hp;have h1:(upRows n C r m R q E n5 W n6).Pairwise (fun x y=>keyC x y≠0∨¬Kt t x∨¬Kt t y):=hp.imp (fun h=>Or.inl (by omega));have h2:=(hperm.pairwise_iff hsy).2 h1;refine NK.of hK hPa (h2.imp_of_mem (fun {x y} hx hy h=>?_));have kx:Kt t x:=hPu x (hperm.mem_iff.1 hx);have ky:Kt t y:=hPu y (hperm.mem_iff.1 hy);rcases h with h | h | h
   · exact h
   · exact absurd kx h
   · exact absurd ky h
 refine⟨hadd.1.trans (hiff.trans hst.symm),fun h=>?_⟩;rw [hadd.2 h];exact sorted_map hK hPa hperm (hiff.1 (hadd.1.1 h))
end Go.Proofs.YtgeiamgeclbiaaaGreatDoor
