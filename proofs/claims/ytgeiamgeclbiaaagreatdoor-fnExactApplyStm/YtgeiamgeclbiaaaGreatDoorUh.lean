import Derived.Test.YtgeiamgeclbiaaaGreatDoorUf
namespace Go.Proofs.YtgeiamgeclbiaaaGreatDoor
open Go.RowKit Go.Maps Go.WideMaps
set_option maxRecDepth 20000
set_option maxHeartbeats 8000000
def cwR(C:Nat->Clm)(n:Nat)(I:Nat->Itm)(m:Nat):Int:=if m=0 then 0 else if (ckR C n I m).2=0/\¬(ckR C n I m).1=1 then 4 else (ckR C n I m).2
def fitB(C:Nat->Clm)(n:Nat)(R:Nat->Itm)(I:Nat->Itm)(m:Nat):Bool:=decide (m=0) || !decide ((vlR C n R I m).m=0)
theorem okExp_out{I:Nat->Itm}{m:Nat}(h:okExp I m=true):m<=100/\0<m/\ex I m=some 1:=by
 simp only [okExp,btw,Bool.and_eq_true,decide_eq_true_eq] at h
 exact⟨by omega,by omega,h.2⟩
theorem okWhere_out{I:Nat->Itm}{m:Nat}(h:okWhere I m=true)(h0:¬m=0):m<=100/\0<m/\ex I m=some 1:=by
 simp only [okWhere,Bool.or_eq_true,decide_eq_true_eq] at h
 exact okExp_out (h.resolve_left h0)
theorem ckR_ok{C:Nat->Clm}{n:Nat}{I:Nat->Itm}{m:Nat}(h:(ckR C n I m).2=0):(ck C n I m).2=0:=by
 unfold ckR at h;split at h
 · exact h
 ·
  rename_i e
  simpa using e
theorem cwR_ok{C:Nat->Clm}{n:Nat}{I:Nat->Itm}{m:Nat}(h:cwR C n I m=0)(h0:¬m=0):(ck C n I m).2=0:=by
 unfold cwR at h;rw [if_neg h0] at h;split at h
 · omega
 · exact ckR_ok h
theorem sCheckW(ac:Option Addr)(n cc:Nat)(C:Nat->Clm)(a:Option Addr)(m c:Nat)(I:Nat->Itm)(w:World)(hC:CL w ac n C)(hI:IL w a m I)(hn:n<=1048576)(hok:okWhere I m=true) :
 Calls Tryz.prog 58 #[.slice ac n cc,.slice a m c] w fun e w'=>e=.returned (.int .i64 (cwR C n I m))/\Below w.heap.size w w':=by
 by_cases h0:m=0
 ·
  subst h0;go_enter Tryz.func58,Tryz.ntmps58
  go_wp2;go_ret
  exact⟨by simp [cwR],Below.refl _ _⟩
 ·
  obtain⟨h1,h2,h3⟩:=okWhere_out hok h0;have H3:Hid (ex I m=some 1):=h3;clear h3 hok;have n0:((m:Int) == 0)=false:=by simp;omega
  obtain⟨k,cd,hk⟩:∃ k cd,ckR C n I m=(k,cd):=⟨_,_,rfl⟩;have HK:Hid (ckR C n I m=(k,cd)):=hk;have HC:=sCheck ac n cc C a m c I w hC hI hn h1 H3.out;rw [hk] at HC;clear hk h0;by_cases e0:cd=0
  ·
   subst e0;by_cases e1:k=1
   ·
    subst e1;go_enter Tryz.func58,Tryz.ntmps58
    go_wp2_with (go_at_call 57;refine HC.mono ?_;rintro e w1 ⟨rfl,hb1⟩)
    go_ret
    exact⟨by unfold cwR;rw [HK.out,if_neg (by omega),if_neg (by simp)];rfl,hb1⟩
   ·
    have n1:(k == 1)=false:=by simpa using e1
    have n2:(k != 1)=true:=by simpa using e1
    have HE:Hid (¬k=1):=e1;clear e1;go_enter Tryz.func58,Tryz.ntmps58
    go_wp2_with (go_at_call 57;refine HC.mono ?_;rintro e w1 ⟨rfl,hb1⟩)
    go_ret
    exact⟨by unfold cwR;rw [HK.out,if_neg (by omega),if_pos ⟨rfl,HE.out⟩];rfl,hb1⟩
  ·
   have n1:(cd == 0)=false:=by simpa using e0
   have HE:Hid (¬cd=0):=e0;clear e0;go_enter Tryz.func58,Tryz.ntmps58
   go_wp2_with (go_at_call 57;refine HC.mono ?_;rintro e w1 ⟨rfl,hb1⟩)
   go_ret
   exact⟨by unfold cwR;rw [HK.out,if_neg (by omega),if_neg (fun h=>HE.out h.1)];rfl,hb1⟩
theorem Tryz.fieldVal(o m:Int)(s:ByteArray)(v:World):(Instr.field 66 (.agg #[.int .i64 o,.int .i64 m,.string s]) 1).run Tryz.prog v=.ok (.int .i64 m) v:=by kernel_rfl
theorem sFits(ac:Option Addr)(n cc:Nat)(C:Nat->Clm)(ar:Option Addr)(cr:Nat)(R:Nat->Itm)(a:Option Addr)(m c:Nat)(I:Nat->Itm)(w:World)(hC:CL w ac n C)(hR:IL w ar n R)(hI:IL w a m I)(hn:n<=1048576)(hok:okWhere I m=true)(hk0:cwR C n I m=0)(hz:∀ j,j<n->(R j).s.size<=200) :
 Calls Tryz.prog 27 #[.slice ac n cc,.slice ar n cr,.slice a m c] w fun e w'=>e=.returned (.bool (fitB C n R I m))/\Below w.heap.size w w':=by
 by_cases h0:m=0
 ·
  subst h0;go_enter Tryz.func27,Tryz.ntmps27
  go_wp2;go_ret
  exact⟨by simp [fitB],Below.refl _ _⟩
 ·
  obtain⟨h1,h2,h3⟩:=okWhere_out hok h0;have n0:((m:Int) == 0)=false:=by simp;omega
  have HV:=sVal5 ac n cc C ar cr R a m c I w hC hR hI hn h1 h3 (cwR_ok hk0 h0) hz;obtain⟨x,hx⟩:∃ x,vlR C n R I m=x:=⟨_,rfl⟩;have HB:Hid (fitB C n R I m=!decide (x.m=0)):=by show _=_;unfold fitB;rw [hx];simp [h0]
  rw [hx] at HV;clear hx h0 h3 hok hk0 hz;obtain⟨xo,xm,xs⟩:=x;by_cases e:xm=0
  ·
   subst e;have hfd:∀ v:World,(Instr.field 66 (.agg #[.int .i64 xo,.int .i64 0,.string xs]) 1).run Tryz.prog v=.ok (.int .i64 0) v:=fun v=>Tryz.fieldVal _ _ _ v;go_enter Tryz.func27,Tryz.ntmps27
   go_wp2_with (go_at_call 28;refine HV.mono ?_;rintro e w1 ⟨rfl,hb1⟩)
   go_ret
   exact⟨by rw [HB.out];rfl,hb1⟩
  ·
   have n1:(xm != 0)=true:=by simpa using e
   have HE:Hid (fitB C n R I m=true):=by show _=_;rw [HB.out];simpa using e
   clear e;have hfd:∀ v:World,(Instr.field 66 (.agg #[.int .i64 xo,.int .i64 xm,.string xs]) 1).run Tryz.prog v=.ok (.int .i64 xm) v:=fun v=>Tryz.fieldVal _ _ _ v;go_enter Tryz.func27,Tryz.ntmps27
   go_wp2_with (go_at_call 28;refine HV.mono ?_;rintro e w1 ⟨rfl,hb1⟩)
   go_ret
   exact⟨by rw [HE.out];rfl,hb1⟩
def tabI(T:Nat->Td)(s:ByteArray):Nat->Option Nat
 | 0=>none
 | k+1=>match tabI T s k with
  | some j=>some j
  | none=>if ((T k).s.toList == s.toList)=true then some k else none
theorem tabI_mono{T:Nat->Td}{s:ByteArray}{k j:Nat}(h:tabI T s k=some j):∀ n,k<=n->tabI T s n=some j:=by
 intro n hn;induction n with
 | zero=>
  obtain rfl:k=0:=by omega
  exact h
 | succ n ih=>
  by_cases e:k=n+1
  · subst e;exact h
  · rw [tabI,ih (by omega)]
theorem tabI_lt{T:Nat->Td}{s:ByteArray}:∀ {n j:Nat},tabI T s n=some j->j<n/\(T j).s=s
 | 0,j,h=>by cases h
 | n+1,j,h=>by
  rw [tabI] at h;split at h
  ·
   rename_i i hi
   cases h
   have:=tabI_lt hi;exact⟨by omega,this.2⟩
  ·
   split at h
   ·
    rename_i he
    cases h
    exact⟨by omega,bytes_inj2 (eq_of_beq he)⟩
   · cases h
theorem tabI_none{T:Nat->Td}{s:ByteArray}:∀ {n:Nat},tabI T s n=none->∀ j,j<n->(T j).s≠s
 | 0,_,j,hj=>by omega
 | n+1,h,j,hj=>by
  rw [tabI] at h;split at h
  · cases h
  ·
   rename_i hn
   split at h
   · cases h
   ·
    rename_i he
    by_cases e:j=n
    · subst e;intro hs;rw [hs] at he;simp at he
    · exact tabI_none hn j (by omega)
theorem sTable(a:Option Addr)(n c:Nat)(T:Nat->Td)(s:ByteArray)(w:World)(h:TL w a n T)(hn:n<=1048576):Calls Tryz.prog 26 #[.agg #[.slice a n c],.string s] w fun e w'=>e=.returned (.int .i64 (colZ (tabI T s n)))/\Below w.heap.size w w':=by
 have hb0:=bal w (.cells #[.slice a n c] 38);go_enter Tryz.func26,Tryz.ntmps26
 go_wp2;go_loopw [5,6,10] (fun _ _ i wr=>∃ k:Nat,k<=n/\i=.int .i64 k/\tabI T s k=none/\Below w.heap.size w wr) (fun _ _ i _=>n - (intOf i).toNat)
 case atStart=>exact⟨0,by omega,rfl,rfl,hb0⟩
 case round=>
  obtain⟨k,hk,rfl,hno,hb⟩:=hrel;have HNO:Hid (tabI T s k=none):=hno;clear hno;by_cases hlt:k<n
  ·
   obtain⟨b,off,ac,cc,ar,cr,rfl,d0,d1,d2,-⟩:=h.later hb k hlt;have HN:Hid (tabI T s (k+1)=if ((T k).s.toList == s.toList)=true then some k else none):=by show _=_;rw [tabI,HNO.out]
   rcases he:((T k).s.toList == s.toList)
   ·
    go_wp2;go_roundw
    case rel=>exact⟨k+1,by omega,by go_num,by rw [HN.out,he];rfl,bj hb (Below.refl _ _)⟩
    case measure=>simp [intOf];omega
   ·
    go_wp2;go_ret
    refine⟨?_,bj hb (Below.refl _ _)⟩;rw [tabI_mono (k:=k+1) (j:=k) (by rw [HN.out,he];rfl) n (by omega)];rfl
  ·
   obtain rfl:k=n:=by omega
   go_wp2;go_ret
   exact⟨by rw [HNO.out];rfl,hb⟩
def flt(f:Nat->List Value)(n:Nat):List Value:=(List.range n).flatMap f
theorem flt_zero(f:Nat->List Value):flt f 0=[]:=rfl
theorem flt_succ(f:Nat->List Value)(n:Nat):flt f (n+1)=flt f n ++ f n:=by
 unfold flt;rw [List.range_succ,List.flatMap_append];simp
theorem flt_len{f:Nat->List Value}{sz:Nat}:∀ {n:Nat},(∀ k,k<n->(f k).length=sz)->(flt f n).length=n * sz
 | 0,_=>by simp [flt]
 | n+1,h=>by
  rw [flt_succ,List.length_append,flt_len (n:=n) (fun k hk=>h k (by omega)),h n (by omega),Nat.add_mul,Nat.one_mul]
theorem flt_congr{f f':Nat->List Value}:∀ {n:Nat},(∀ k,k<n->f k=f' k)->flt f n=flt f' n
 | 0,_=>rfl
 | n+1,h=>by rw [flt_succ,flt_succ,flt_congr (n:=n) (fun k hk=>h k (by omega)),h n (by omega)]
theorem flt_get{f:Nat->List Value}{sz:Nat}:∀ {n:Nat},(∀ k,k<n->(f k).length=sz)->∀ {i j:Nat},i<n->j<sz->(flt f n)[i * sz+j]?=(f i)[j]?
 | 0,_,i,j,hi,_=>by omega
 | n+1,h,i,j,hi,hj=>by
  have hl:=flt_len (n:=n) (fun k hk=>h k (by omega));rw [flt_succ];by_cases e:i<n
  ·
   have hb:i * sz+j<n * sz:=by
    have:(i+1) * sz<=n * sz:=Nat.mul_le_mul_right sz e;rw [Nat.add_mul,Nat.one_mul] at this;omega
   rw [List.getElem?_append_left (by omega)];exact flt_get (n:=n) (fun k hk=>h k (by omega)) e hj
  ·
   obtain rfl:i=n:=by omega
   rw [List.getElem?_append_right (by omega),hl];congr 1
   omega
theorem flt_all{f:Nat->List Value}{sz:Nat}(hsz:0<sz):∀ {n:Nat},(∀ k,k<n->(f k).length=sz)->∀ {P:Nat->Value->Prop},(∀ i,i<n->∀ j u,(f i)[j]?=some u->P (i * sz+j) u)->∀ q u,(flt f n)[q]?=some u->P q u:=by
 intro n h P hP q u hu;obtain⟨hq,-⟩:=List.getElem?_eq_some_iff.1 hu;rw [flt_len h] at hq;have hi:q / sz<n:=Nat.div_lt_of_lt_mul (by rw [Nat.mul_comm];exact hq);have hj:q % sz<sz:=Nat.mod_lt _ hsz;have e:q / sz * sz+q % sz=q:=by rw [Nat.mul_comm];exact Nat.div_add_mod q sz
 rw [←e] at hu ⊢;rw [flt_get h hi hj] at hu;exact hP _ hi _ _ hu
theorem flt_one{f:Nat->List Value}{n:Nat}(h:∀ k,k<n->∀ u∈f k,u.oneCell'=true):∀ u∈flt f n,u.oneCell'=true:=by
 intro u hu;simp only [flt,List.mem_flatMap,List.mem_range] at hu
 obtain⟨k,hk,hu⟩:=hu;exact h k hk u hu
def Liv(X:Nat->Prop)(w:World)(P:World->Prop):Prop:=∀ w',(∀ a v,X a.block->w.cell? a=some v->w'.cell? a=some v)->P w'
theorem Liv.now{X:Nat->Prop}{w:World}{P:World->Prop}(h:Liv X w P):P w:=h w fun _ _ _ h=>h
theorem Liv.step{X:Nat->Prop}{w w':World}{P:World->Prop}(h:Liv X w P)(k:∀ a v,X a.block->w.cell? a=some v->w'.cell? a=some v):Liv X w' P:=fun w2 h2=>h w2 fun a v hx hc=>h2 a v hx (k a v hx hc)
theorem Liv.wide{X Y:Nat->Prop}{w:World}{P:World->Prop}(h:Liv X w P)(k:∀ b,X b->b<w.heap.size->Y b):Liv Y w P:=fun w2 h2=>h w2 fun a v hx hc=>h2 a v (k _ hx (World.block_lt_of_cell? w _ hc)) hc
theorem Liv.later{X:Nat->Prop}{w w':World}{P:World->Prop}(h:Liv X w P)(hb:Below w.heap.size w w'):Liv X w' P:=h.step fun _ _ _ hc=>keepB hb hc
theorem Liv.imp{X:Nat->Prop}{w:World}{P Q:World->Prop}(h:Liv X w P)(k:∀ w,P w->Q w):Liv X w Q:=fun w2 h2=>k _ (h w2 h2)
theorem Liv.and{X:Nat->Prop}{w:World}{P Q:World->Prop}(h:Liv X w P)(k:Liv X w Q):Liv X w (fun w=>P w/\Q w):=fun w2 h2=>⟨h w2 h2,k w2 h2⟩
theorem Liv.grown{X:Nat->Prop}{w w':World}{P:World->Prop}{r:Option Nat}(h:Liv X w P)(hg:w.grownBy w' r)(hX:∀ b,X b->some b≠r):Liv X w' P:=h.step fun _ _ hx hc=>
 (World.cell?_of_block (hg.block _ (World.block_lt_of_cell? w _ hc) (hX _ hx))).trans hc
theorem Liv.set{X:Nat->Prop}{w:World}{P:World->Prop}{B i:Nat}{v:Value}(h:Liv X w P)(hX:¬X B):Liv X (w.setCell ⟨B,i,none⟩ v) P:=h.step fun a u hx hc=>by
 rw [World.cell?_setCell_far _ _ _ _ (show B≠a.block from fun e=>hX (by rw [e];exact hx))]
 exact hc
theorem IL.liv{w:World}{a:Option Addr}{n:Nat}{I:Nat->Itm}(h:IL w a n I){X:Nat->Prop}(hX:∀ b off,a=some ⟨b,off,none⟩->X b):Liv X w (fun w=>IL w a n I):=fun w' k j hj=>by
 obtain⟨b,off,e,c0,c1,c2,hs⟩:=h j hj;exact⟨b,off,e,k _ _ (hX b off e) c0,k _ _ (hX b off e) c1,k _ _ (hX b off e) c2,hs⟩
theorem CL.liv{w:World}{a:Option Addr}{n:Nat}{C:Nat->Clm}(h:CL w a n C){X:Nat->Prop}(hX:∀ b off,a=some ⟨b,off,none⟩->X b):Liv X w (fun w=>CL w a n C):=fun w' k j hj=>by
 obtain⟨b,off,e,c0,c1,hs⟩:=h j hj;exact⟨b,off,e,k _ _ (hX b off e) c0,k _ _ (hX b off e) c1,hs⟩
theorem IL.lb{w:World}{a:Option Addr}{n:Nat}{I:Nat->Itm}(h:IL w a n I):Liv (fun b=>b<w.heap.size) w (fun w=>IL w a n I):=fun w' k j hj=>by
 obtain⟨b,off,e,c0,c1,c2,hs⟩:=h j hj;have hl:=World.block_lt_of_cell? w _ c0;exact⟨b,off,e,k _ _ hl c0,k _ _ hl c1,k _ _ hl c2,hs⟩
theorem CL.lb{w:World}{a:Option Addr}{n:Nat}{C:Nat->Clm}(h:CL w a n C):Liv (fun b=>b<w.heap.size) w (fun w=>CL w a n C):=fun w' k j hj=>by
 obtain⟨b,off,e,c0,c1,hs⟩:=h j hj;have hl:=World.block_lt_of_cell? w _ c0;exact⟨b,off,e,k _ _ hl c0,k _ _ hl c1,hs⟩
theorem OL.lb{w:World}{a:Option Addr}{n:Nat}{m:Nat->Nat}{O:Nat->Nat->Itm}(h:OL w a n m O):Liv (fun b=>b<w.heap.size) w (fun w=>OL w a n m O):=fun w' k j hj=>by
 obtain⟨b,off,i,c,e,c0,hI,hs⟩:=h j hj;exact⟨b,off,i,c,e,k _ _ (World.block_lt_of_cell? w _ c0) c0,hI.lb w' k,hs⟩
structure GO{α:Type}(T sz G:Nat)(D:Nat->Prop)(E:List Value->α->World->Prop)(w:World)(v:Value)(n:Nat)(x:Nat->α)(f:Nat->List Value):Prop where
 own:w.ownsRow G T sz v n (flt f n)
 len:∀ i,i<n->(f i).length=sz
 liv:∀ i,i<n->Liv (fun b=>D b/\some b≠v.ownBlock) w (E (f i) (x i))
theorem GO.later{α:Type}{T sz G:Nat}{D:Nat->Prop}{E:List Value->α->World->Prop}{w w':World}{v:Value}{n:Nat}{x:Nat->α}{f:Nat->List Value}(h:GO T sz G D E w v n x f)(hb:Below w.heap.size w w'):GO T sz G D E w' v n x f:=
 ⟨own_below h.own hb,h.len,fun i hi=>(h.liv i hi).later hb⟩
theorem GO.nil{α:Type}{T sz G:Nat}{D:Nat->Prop}{E:List Value->α->World->Prop}{w:World}{v:Value}{x:Nat->α}(h:w.ownsRow G T sz v 0 []):GO T sz G D E w v 0 x (fun _=>[]):=
 ⟨h,fun i hi=>by omega,fun i hi=>by omega⟩
theorem GO.congr{α:Type}{T sz G:Nat}{D:Nat->Prop}{E:List Value->α->World->Prop}{w:World}{v:Value}{n:Nat}{x x':Nat->α}{f:Nat->List Value}(h:GO T sz G D E w v n x f)(hx:∀ i,i<n->x' i=x i):GO T sz G D E w v n x' f:=
 ⟨h.own,h.len,fun i hi=>by rw [hx i hi];exact h.liv i hi⟩
theorem GO.push{α:Type}{T sz G:Nat}{D:Nat->Prop}{E:List Value->α->World->Prop}{w w':World}{v:Value}{n g' cap':Nat}{x:Nat->α}{f:Nat->List Value}{c:List Value}(h:GO T sz G D E w v n x f)(hc:c.length=sz)(hl:Liv (fun b=>D b/\some b≠v.ownBlock) w (E c (x n)))
 (hO:w'.ownsRow G T sz (.slice (some ⟨g',0,none⟩) (n+1) cap') (n+1) (flt f n ++ c)) (hgr:w.grownBy w' v.ownBlock) (hat:v.ownBlock=some g'∨g'=w.heap.size) :
 GO T sz G D E w' (.slice (some ⟨g',0,none⟩) (n+1) cap') (n+1) x (fun i=>if i<n then f i else c):=by
 have key:∀ {P:World->Prop},Liv (fun b=>D b/\some b≠v.ownBlock) w P->Liv (fun b=>D b/\some b≠(Value.slice (some ⟨g',0,none⟩) (n+1) cap').ownBlock) w' P:=fun hp=>by
  have h1:=hp.wide (Y:=fun b=>D b/\some b≠v.ownBlock/\b<w.heap.size) (fun b hb hs=>⟨hb.1,hb.2,hs⟩);have h2:=h1.grown hgr (fun b hb=>hb.2.1);refine h2.wide (fun b hb _=>⟨hb.1,?_⟩);show some b≠some g'
  rcases hat with e | e
  · rw [←e];exact hb.2.1
  · intro e2;have e3:b=g':=Option.some.inj e2;have:=hb.2.2;omega
 refine⟨?_,fun i hi=>?_,fun i hi=>?_⟩
 ·
  rw [flt_succ,flt_congr (f:=fun i=>if i<n then f i else c) (f':=f) (fun k hk=>by simp [hk])]
  rw [if_neg (by omega)];exact hO
 ·
  show (if i<n then f i else c).length=sz
  split
  · rename_i h1;exact h.len i h1
  · exact hc
 ·
  show Liv _ _ (E (if i<n then f i else c) (x i))
  split
  · rename_i h1;exact key (h.liv i h1)
  ·
   obtain rfl:i=n:=by omega
   exact key hl
theorem GO.cell{α:Type}{T sz G:Nat}{D:Nat->Prop}{E:List Value->α->World->Prop}{w:World}{g cap n:Nat}{x:Nat->α}{f:Nat->List Value}(h:GO T sz G D E w (.slice (some ⟨g,0,none⟩) n cap) n x f){i j:Nat}(hi:i<n)(hj:j<sz):w.cell? ⟨g,i * sz+j,none⟩=(f i)[j]?:=by
 have hb:i * sz+j<n * sz:=by
  have:(i+1) * sz<=n * sz:=Nat.mul_le_mul_right sz hi;rw [Nat.add_mul,Nat.one_mul] at this;omega
 exact(h.own.cellAt _ hb).trans (flt_get h.len hi hj)
abbrev Rw:=Nat×(Nat->Itm)
def ER(c:List Value)(x:Rw)(w:World):Prop:=∃ a k,c=[.slice a x.1 k]/\IL w a x.1 x.2/\x.1<=1048576
def ET(c:List Value)(d:Td)(w:World):Prop:=∃ ac cc ar cr,c=[.string d.s,.slice ac d.n cc,.slice ar d.r cr]/\CL w ac d.n d.C/\OL w ar d.r d.m d.R/\Sm3 d
abbrev RO(G:Nat)(D:Nat->Prop)(w:World)(v:Value)(n:Nat)(x:Nat->Rw)(f:Nat->List Value):Prop:=GO 41 1 G D ER w v n x f
abbrev TO(G:Nat)(D:Nat->Prop)(w:World)(v:Value)(n:Nat)(x:Nat->Td)(f:Nat->List Value):Prop:=GO 62 3 G D ET w v n x f
theorem own_shape{w:World}{base e size n:Nat}{v:Value}{xs:List Value}(h:w.ownsRow base e size v n xs):(v=.slice none 0 0/\n=0)∨∃ g cap,v=.slice (some ⟨g,0,none⟩) n cap:=by
 rcases h.2 with ⟨e1,e2⟩ | ⟨g,cap,cur,e1,-⟩
 · exact Or.inl ⟨e1,e2⟩
 · exact Or.inr ⟨g,cap,e1⟩
theorem RO.ol{G:Nat}{D:Nat->Prop}{w:World}{v:Value}{n:Nat}{x:Nat->Rw}{f:Nat->List Value}(h:RO G D w v n x f):∃ a c,v=.slice a n c/\OL w a n (fun i=>(x i).1) (fun i=>(x i).2):=by
 rcases own_shape h.own with ⟨rfl,rfl⟩ | ⟨g,cap,rfl⟩
 · exact⟨none,0,rfl,fun k hk=>by omega⟩
 · refine⟨some ⟨g,0,none⟩,cap,rfl,fun k hk=>?_⟩;obtain⟨a,c,e,hI,hs⟩:=(h.liv k hk).now;have:=h.cell (j:=0) hk (by omega);rw [e] at this;refine⟨g,0,a,c,rfl,?_,hI,hs⟩;rw [Nat.zero_add];simpa using this
theorem RO.olv{G:Nat}{D:Nat->Prop}{w:World}{g cap n:Nat}{x:Nat->Rw}{f:Nat->List Value}(h:RO G D w (.slice (some ⟨g,0,none⟩) n cap) n x f)(hG:∀ b,G<=b->D b):Liv D w (fun w=>OL w (some ⟨g,0,none⟩) n (fun i=>(x i).1) (fun i=>(x i).2)):=fun w' k i hi=>by
 have hl:=(h.own.lt g rfl).1;obtain⟨a,c,e,hI,hs⟩:=(h.liv i hi) w' (fun p u hp hc=>k p u hp.1 hc);have:=h.cell (j:=0) hi (by omega);rw [e] at this;refine⟨g,0,a,c,rfl,k _ _ (hG _ hl) ?_,hI,hs⟩;rw [Nat.zero_add];simpa using this
theorem TO.tl{G:Nat}{D:Nat->Prop}{w:World}{v:Value}{n:Nat}{x:Nat->Td}{f:Nat->List Value}(h:TO G D w v n x f):∃ a c,v=.slice a n c/\TL w a n x:=by
 rcases own_shape h.own with ⟨rfl,rfl⟩ | ⟨g,cap,rfl⟩
 · exact⟨none,0,rfl,fun k hk=>by omega⟩
 ·
  refine⟨some ⟨g,0,none⟩,cap,rfl,fun k hk=>?_⟩;obtain⟨ac,cc,ar,cr,e,hC,hR,hs⟩:=(h.liv k hk).now;have h0:=h.cell (j:=0) hk (by omega);have h1:=h.cell (j:=1) hk (by omega);have h2:=h.cell (j:=2) hk (by omega);rw [e] at h0 h1 h2;refine⟨g,0,ac,cc,ar,cr,rfl,?_,?_,?_,hC,hR,hs⟩
  · rw [Nat.zero_add];simpa using h0
  · rw [Nat.zero_add];simpa using h1
  · rw [Nat.zero_add];simpa using h2
theorem addr_add(b off n:Nat):(⟨b,off+n,none⟩:Addr)=(⟨b,off,none⟩:Addr).add n:=by
 unfold Addr.add;split
 · rename_i h;subst h;rfl
 · rfl
def c2(x:Clm):List Value:=[.string x.s,.int .i64 x.t]
theorem IL.news{w:World}{ad:Addr}{n:Nat}{I:Nat->Itm}(h:IL w (some ad) n I):∀ q u,(flt (fun k=>v3 (I k)) n)[q]?=some u->w.cell? (ad.add q)=some u:=by
 refine flt_all (sz:=3) (by omega) (fun k _=>rfl) (P:=fun q u=>w.cell? (ad.add q)=some u) (fun i hi j u hu=>?_);obtain⟨b,off,e,c0,c1,c2,-⟩:=h i hi;obtain rfl:ad=⟨b,off,none⟩:=Option.some.inj e;match j,hu with
 | 0,hu=>
  obtain rfl:Value.int .i64 (I i).o=u:=Option.some.inj hu;rw [Nat.add_zero,←addr_add];exact c0
 | 1,hu=>
  obtain rfl:Value.int .i64 (I i).m=u:=Option.some.inj hu;exact c1
 | 2,hu=>
  obtain rfl:Value.string (I i).s=u:=Option.some.inj hu;exact c2
theorem CL.news{w:World}{ad:Addr}{n:Nat}{C:Nat->Clm}(h:CL w (some ad) n C):∀ q u,(flt (fun k=>c2 (C k)) n)[q]?=some u->w.cell? (ad.add q)=some u:=by
 refine flt_all (sz:=2) (by omega) (fun k _=>rfl) (P:=fun q u=>w.cell? (ad.add q)=some u) (fun i hi j u hu=>?_);obtain⟨b,off,e,c0,c1,-⟩:=h i hi;obtain rfl:ad=⟨b,off,none⟩:=Option.some.inj e;match j,hu with
 | 0,hu=>
  obtain rfl:Value.string (C i).s=u:=Option.some.inj hu;rw [Nat.add_zero,←addr_add];exact c0
 | 1,hu=>
  obtain rfl:Value.int .i64 (C i).t=u:=Option.some.inj hu;exact c1
theorem own_il{w:World}{G g cap n:Nat}{I:Nat->Itm}(h:w.ownsRow G 66 3 (.slice (some ⟨g,0,none⟩) n cap) n (flt (fun k=>v3 (I k)) n))(hs:∀ k,k<n->(I k).s.size<=1048576):IL w (some ⟨g,0,none⟩) n I:=fun k hk=>by
 have key:∀ j,j<3->w.cell? ⟨g,k * 3+j,none⟩=(v3 (I k))[j]?:=fun j hj=>(h.cellAt _ (by omega)).trans (flt_get (sz:=3) (fun _ _=>rfl) hk hj);refine⟨g,0,rfl,?_,?_,?_,hs k hk⟩
 · rw [Nat.zero_add];exact key 0 (by omega)
 · rw [Nat.zero_add];exact key 1 (by omega)
 · rw [Nat.zero_add];exact key 2 (by omega)
theorem own_cl{w:World}{G g cap n:Nat}{C:Nat->Clm}(h:w.ownsRow G 113 2 (.slice (some ⟨g,0,none⟩) n cap) n (flt (fun k=>c2 (C k)) n))(hs:∀ k,k<n->(C k).s.size<=1048576):CL w (some ⟨g,0,none⟩) n C:=fun k hk=>by
 have key:∀ j,j<2->w.cell? ⟨g,k * 2+j,none⟩=(c2 (C k))[j]?:=fun j hj=>(h.cellAt _ (by omega)).trans (flt_get (sz:=2) (fun _ _=>rfl) hk hj);refine⟨g,0,rfl,?_,?_,hs k hk⟩
 · rw [Nat.zero_add];exact key 0 (by omega)
 · rw [Nat.zero_add];exact key 1 (by omega)
theorem one3(I:Nat->Itm)(n:Nat):∀ u∈flt (fun k=>v3 (I k)) n,u.oneCell'=true:=flt_one fun k _ u hu=>by
 simp only [v3,List.mem_cons,List.not_mem_nil,or_false] at hu
 rcases hu with rfl | rfl | rfl <;> rfl
theorem one2(C:Nat->Clm)(n:Nat):∀ u∈flt (fun k=>c2 (C k)) n,u.oneCell'=true:=flt_one fun k _ u hu=>by
 simp only [c2,List.mem_cons,List.not_mem_nil,or_false] at hu
 rcases hu with rfl | rfl <;> rfl
theorem len3(I:Nat->Itm)(n:Nat):(flt (fun k=>v3 (I k)) n).length=n * 3:=flt_len fun _ _=>rfl
theorem len2(C:Nat->Clm)(n:Nat):(flt (fun k=>c2 (C k)) n).length=n * 2:=flt_len fun _ _=>rfl
end Go.Proofs.YtgeiamgeclbiaaaGreatDoor
