import Derived.Test.YtgeiamgeclbiaaaGreatDoorUsa
import Derived.Deep.RegionHeld3
namespace Go.Proofs.YtgeiamgeclbiaaaGreatDoor
open Go.RowKit Go.Maps Go.WideMaps
structure Ro where
 b:Nat
 c:Nat
 x:Rw
abbrev Dm:=DataW Unit
def Ro.v(r:Ro):Value:=.slice (some ⟨r.b,0,none⟩) r.x.1 r.c
def Ro.d(r:Ro):Dm:=.agg [.lit (.int .i64 r.b),.lit (.int .i64 r.x.1),.lit (.int .i64 r.c)]
def rowE:Value->Option (Dm×List MemPlace)
 | .slice none 0 0=>some (.nil,[])
 | .slice (some ⟨b,0,none⟩) n c=>some (.agg [.lit (.int .i64 b),.lit (.int .i64 n),.lit (.int .i64 c)],[])
 | _=>none
theorem rowE_nil:rowE (.slice none 0 0)=some (.nil,[]):=rfl
theorem rowE_inv{v:Value}{r:Ro}{ps:List MemPlace}(h:rowE v=some (r.d,ps)):v=r.v:=by
 unfold rowE at h;split at h
 · simp [Ro.d] at h
 ·
  rename_i b n c
  simp only [Ro.d,Option.some.injEq,Prod.mk.injEq,DataW.agg.injEq,List.cons.injEq,DataW.lit.injEq,Lit.int.injEq,true_and,and_true] at h
  obtain⟨⟨h1,h2,h3⟩,-⟩:=h;unfold Ro.v;rw [Int.ofNat_inj.1 h1,Int.ofNat_inj.1 h2,Int.ofNat_inj.1 h3]
 · cases h
def MpC(D:Dm)(A:List (Lit×Dm)):Prop:=∃ es,D=.map es/\es.Perm A/\A.Pairwise (fun p q=>p.1≠q.1)
theorem insert_perm(x:Lit×Dm):∀ l:List (Lit×Dm),(DataW.insert x l).Perm (x :: l)
 | []=>List.Perm.refl _
 | y :: r=>by
  unfold DataW.insert;split
  · exact List.Perm.refl _
  · exact((insert_perm x r).cons y).trans (List.Perm.swap x y r)
theorem MpC.nil:MpC (.map []) []:=⟨[],rfl,List.Perm.refl _,List.Pairwise.nil⟩
theorem MpC.size{D:Dm}{A:List (Lit×Dm)}(h:MpC D A):Maps.size D=A.length:=by
 obtain⟨es,rfl,hp,-⟩:=h;exact hp.length_eq
theorem MpC.has{D:Dm}{A:List (Lit×Dm)}(h:MpC D A)(k:Lit):Maps.has D k=A.any fun p=>p.1.sameKey k:=by
 obtain⟨es,rfl,hp,-⟩:=h;rw [Maps.has_eq,Bool.eq_iff_iff,List.any_eq_true,List.any_eq_true];exact⟨fun ⟨p,h1,h2⟩=>⟨p,hp.mem_iff.1 h1,h2⟩,fun ⟨p,h1,h2⟩=>⟨p,hp.mem_iff.2 h1,h2⟩⟩
theorem MpC.at{D:Dm}{A:List (Lit×Dm)}(h:MpC D A){p:Lit×Dm}(hp:p∈A)(hs:p.1.sameKey p.1=true)(z:Dm):D.atKey p.1 z=p.2:=by
 obtain⟨es,rfl,hpm,hw⟩:=h;have hq:p∈es:=hpm.mem_iff.2 hp;have hw2:es.Pairwise (fun p q=>p.1≠q.1):=(hpm.pairwise_iff (fun {_ _} hne=>Ne.symm hne)).2 hw;unfold DataW.atKey;dsimp only
 cases hf:es.find? (fun q=>q.1.sameKey p.1) with
 | none=>
  have:=List.find?_eq_none.1 hf p hq;simp [hs] at this
 | some q=>
  have h1:=List.find?_some hf;have h2:=List.mem_of_find?_eq_some hf;have e:q.1=p.1:=WideAt.sameKey_eq h1;dsimp only
  by_cases e2:q=p
  · rw [e2]
  ·
   exfalso
   have:∀ {l:List (Lit×Dm)},l.Pairwise (fun p q=>p.1≠q.1)->p∈l->q∈l->False:=by
    intro l hl;induction hl with
    | nil=>intro h;cases h
    | cons hx _ ih=>
     intro a1 a2;rcases List.mem_cons.1 a1 with b1 | b1
     ·
      rcases List.mem_cons.1 a2 with b2 | b2
      · exact e2 (b2.trans b1.symm)
      · subst b1;exact hx _ b2 e.symm
     ·
      rcases List.mem_cons.1 a2 with b2 | b2
      · subst b2;exact hx _ b1 e
      · exact ih b1 b2
   exact this hw2 hq h2
theorem filter_all{α:Type}{f:α->Bool}:∀ {l:List α},(∀ x∈l,f x=true)->l.filter f=l:=fun h=>List.filter_eq_self.2 h
theorem MpC.put{D:Dm}{A:List (Lit×Dm)}(h:MpC D A){k:Lit}(hk:(A.any fun p=>p.1.sameKey k)=false)(hk2:k.sameKey k=true)(d:Dm):MpC (D.put k d) (A ++ [(k,d)]):=by
 obtain⟨es,rfl,hp,hw⟩:=h;have hn:∀ p∈A,p.1.sameKey k=false:=fun p hpA=>by
  have:=List.any_eq_false.1 hk p hpA;simpa using this
 refine⟨_,rfl,?_,?_⟩
 · rw [filter_all (fun p hpe=>by rw [hn p (hp.mem_iff.1 hpe)];rfl)];exact(insert_perm _ _).trans ((hp.cons _).trans (List.perm_append_singleton _ _).symm)
 · rw [List.pairwise_append];refine⟨hw,List.pairwise_singleton _ _,fun p hpA q hq=>?_⟩;rw [List.mem_singleton] at hq;subst hq;intro e;have:=hn p hpA;rw [e,hk2] at this;cases this
theorem MpC.del{D:Dm}{A:List (Lit×Dm)}(h:MpC D A)(k:Lit):MpC (D.del k) (A.filter fun p=>!p.1.sameKey k):=by
 obtain⟨es,rfl,hp,hw⟩:=h;exact⟨_,rfl,hp.filter _,hw.filter _⟩
def kI(x:Rw):Lit:=.int .i64 (x.2 0).m
def kS(x:Rw):Lit:=.string (x.2 0).s.data.toList
theorem kI_self(x:Rw):(kI x).sameKey (kI x)=true:=by simp [kI,Lit.sameKey]
theorem kS_self(x:Rw):(kS x).sameKey (kS x)=true:=by simp [kS,Lit.sameKey]
def mcL(key:Rw->Lit)(L:List Ro):List (Lit×Dm):=L.map fun r=>(key r.x,r.d)
def KM(K:TypeId)(key:Rw->Lit)(w:World)(b:Nat)(L:List Ro):Prop:=∃ D,w.ownsMap Tryz.prog K rowE b L.length D/\MpC D (mcL key L)
def hasK(key:Rw->Lit)(L:List Ro)(k:Lit):Bool:=L.any fun q=>(key q.x).sameKey k
theorem mcL_any(key:Rw->Lit)(L:List Ro)(k:Lit):((mcL key L).any fun p=>p.1.sameKey k)=hasK key L k:=by
 unfold mcL hasK;rw [List.any_map];rfl
theorem own_tight{P:Program}{k:TypeId}{R:Value->Option (Dm×List MemPlace)}{w:World}{b n:Nat}{D:Dm}(h:w.ownsMap P k R b n D):w.ownsMap P k R b (Maps.size D) D:=by
 obtain⟨es,clock,hb,F,hs,rfl⟩:=h;exact⟨es,clock,hb,F,by simp [Maps.size,length_sorted],rfl⟩
theorem mcL_len(key:Rw->Lit)(L:List Ro):(mcL key L).length=L.length:=by simp [mcL]
theorem KM.mk{K:TypeId}{key:Rw->Lit}{w:World}{b n:Nat}{D:Dm}{L:List Ro}(h:w.ownsMap Tryz.prog K rowE b n D)(hm:MpC D (mcL key L)):KM K key w b L:=by
 refine⟨D,?_,hm⟩;have:=own_tight h;rwa [hm.size,mcL_len] at this
theorem KM.later{K:TypeId}{key:Rw->Lit}{w w':World}{b:Nat}{L:List Ro}(h:KM K key w b L)(hb:Below w.heap.size w w'):KM K key w' b L:=by
 obtain⟨D,h1,h2⟩:=h;have hbl:=h1.lt;obtain⟨es,clock,hx,Ft,hs,hD⟩:=h1;exact⟨D,⟨es,clock,(hb.block b hbl).trans hx,Ft,hs,hD⟩,h2⟩
theorem KM.lt{K:TypeId}{key:Rw->Lit}{w:World}{b:Nat}{L:List Ro}(h:KM K key w b L):b<w.heap.size:=by
 obtain⟨D,h1,h2⟩:=h;exact h1.lt
theorem KM.put{K:TypeId}{key:Rw->Lit}{w':World}{b n:Nat}{D:Dm}{L:List Ro}{r:Ro}(hm:MpC D (mcL key L))(hk:hasK key L (key r.x)=false)(hs:(key r.x).sameKey (key r.x)=true)(h:w'.ownsMap Tryz.prog K rowE b n (D.put (key r.x) r.d)):KM K key w' b (L ++ [r]):=by
 refine KM.mk h ?_;have:=hm.put (k:=key r.x) (by rw [mcL_any];exact hk) hs r.d;simpa [mcL] using this
def delK(key:Rw->Lit)(L:List Ro)(k:Lit):List Ro:=L.filter fun q=>!(key q.x).sameKey k
theorem KM.del{K:TypeId}{key:Rw->Lit}{w':World}{b n:Nat}{D:Dm}{L:List Ro}{k:Lit}(hm:MpC D (mcL key L))(h:w'.ownsMap Tryz.prog K rowE b n (D.del k)):KM K key w' b (delK key L k):=by
 refine KM.mk h ?_;have:=hm.del k;unfold mcL at this;rw [List.filter_map] at this;exact this
def addL(key:Rw->Lit)(L:List Ro):List Ro->Bool×List Ro
 | []=>(true,L)
 | r :: rs=>if hasK key L (key r.x)=true then (false,L) else addL key (L ++ [r]) rs
def delL(key:Rw->Lit)(L:List Ro):List Rw->List Ro
 | []=>L
 | x :: xs=>delL key (delK key L (key x)) xs
set_option maxRecDepth 20000
set_option maxHeartbeats 8000000
theorem lawI:Keyed Tryz.prog 3:=int_keyed Tryz.underlying3
theorem zeroR(w:World):(zeroValue 41).run Tryz.prog w=.ok (.slice none 0 0) w:=by kernel_rfl
theorem box2{W:World}{R:Nat}{x y:Value}{t:TypeId}(h:W.heap[R]?=some (.cells #[x,y] t (0,0))):W.cell? ⟨R,0,none⟩=some x/\W.cell? ⟨R,1,none⟩=some y:=⟨cell_of_row _ _ 0 _ _ _ h,cell_of_row _ _ 1 _ _ _ h⟩
def o0:Ro:=⟨0,0,r0⟩
def RS(w:World)(a:Option Addr)(L:List Ro):Prop:=∀ k,k<L.length->∃ g off,a=some ⟨g,off,none⟩/\w.cell? ⟨g,off+k,none⟩=some (L.getD k o0).v
def RL(w:World)(L:List Ro):Prop:=∀ r∈L,IL w (some ⟨r.b,0,none⟩) r.x.1 r.x.2/\0<r.x.1
def AllC(w w':World):Prop:=∀ a v,w.cell? a=some v->w'.cell? a=some v
theorem AllC.below{w w':World}(h:Below w.heap.size w w'):AllC w w':=fun _ _ hc=>keepB h hc
theorem AllC.trans{a b c:World}(h:AllC a b)(k:AllC b c):AllC a c:=fun x v hc=>k x v (h x v hc)
theorem cell_map{w:World}{b:Nat}{es:Array MapEntry}{cl:Nat}(h:w.heap[b]?=some (.map es cl)){a:Addr}{v:Value}(hc:w.cell? a=some v):a.block≠b:=fun e=>by
 unfold World.cell? at hc;rw [e,h] at hc;cases hc
theorem AllC.own{P:Program}{K:TypeId}{R:Value->Option (Dm×List MemPlace)}{w w':World}{mb n:Nat}{D:Dm}(h:w.ownsMap P K R mb n D)(hg:w.grownBy w' (some mb)):AllC w w':=fun a v hc=>by
 obtain⟨es,cl,hb,-⟩:=h;have hne:=cell_map hb hc;exact(World.cell?_of_block (hg.block _ (World.block_lt_of_cell? w _ hc) (fun e=>hne (Option.some.inj e)))).trans hc
theorem AllC.km{K:TypeId}{key:Rw->Lit}{w w':World}{mb:Nat}{L:List Ro}(h:KM K key w mb L)(hg:w.grownBy w' (some mb)):AllC w w':=by
 obtain⟨D,h1,-⟩:=h;exact AllC.own h1 hg
theorem RS.all{w w':World}{a:Option Addr}{L:List Ro}(h:RS w a L)(k:AllC w w'):RS w' a L:=fun j hj=>by
 obtain⟨g,off,e,hc⟩:=h j hj;exact⟨g,off,e,k _ _ hc⟩
theorem IL.all{w w':World}{a:Option Addr}{n:Nat}{I:Nat->Itm}(h:IL w a n I)(k:AllC w w'):IL w' a n I:=h.lb w' fun a v _ hc=>k a v hc
theorem OL.all{w w':World}{a:Option Addr}{n:Nat}{m:Nat->Nat}{O:Nat->Nat->Itm}(h:OL w a n m O)(k:AllC w w'):OL w' a n m O:=h.lb w' fun a v _ hc=>k a v hc
theorem RL.all{w w':World}{L:List Ro}(h:RL w L)(k:AllC w w'):RL w' L:=fun r hr=>⟨(h r hr).1.all k,(h r hr).2⟩
theorem getD_memR{L:List Ro}{k:Nat}(h:k<L.length):L.getD k o0∈L:=getD_mem h
theorem drop_at{L:List Ro}{k:Nat}(h:k<L.length):L.drop k=L.getD k o0 :: L.drop (k+1):=by
 rw [List.drop_eq_getElem_cons h];simp [h]
theorem addL_one{key:Rw->Lit}{C L:List Ro}{k:Nat}(h:k<L.length):addL key C (L.drop k)=if hasK key C (key (L.getD k o0).x)=true then (false,C) else addL key (C ++ [L.getD k o0]) (L.drop (k+1)):=by
 rw [drop_at h,addL]
theorem gnew{w:World}{o:Obj}(r:Option Nat):w.grownBy (w.alloc o) r:=World.grownBy_alloc w o r
theorem gtr{a b c:World}{r:Nat}(h:a.grownBy b (some r))(k:b.grownBy c (some r)):a.grownBy c (some r):=h.trans k
theorem iAddI(mb:Nat)(a:Option Addr)(c:Nat)(L L':List Ro)(w:World)(hM:KM 3 kI w mb L)(hR:RS w a L')(hL:RL w L')(hn:L.length+L'.length<=1048576)(hK:∀ r∈L',keyOf Tryz.prog 3 (.int .i64 (r.x.2 0).m)=some (kI r.x)) :
 Calls Tryz.prog 171 #[.agg #[.map (some mb),.func (.func 119) #[] #[]],.slice a L'.length c] w fun e w'=>e=.returned (.bool (addL kI L L').1)/\KM 3 kI w' mb (addL kI L L').2/\w.grownBy w' (some mb):=by
 have hbU:=bal w (.cells #[.map (some mb),.func (.func 119) #[] #[]] 210);have hq:=heap_alloc_new w (.cells #[.map (some mb),.func (.func 119) #[] #[]] 210);have hml:=hM.lt;go_enter Tryz.func171,Tryz.ntmps171
 go_wp2;go_loopw [6,7,8,9,12] (fun _ _ _ _ i wr=>∃ (k:Nat) (C:List Ro),k<=L'.length/\i=.int .i64 k/\addL kI L L'=addL kI C (L'.drop k)/\C.length=L.length+k/\KM 3 kI wr mb C/\wr.heap[w.heap.size]?=some (.cells #[.map (some mb),.func (.func 119) #[] #[]] 210 (0,0))/\w.grownBy wr (some mb)) (fun _ _ _ _ i _=>L'.length - (intOf i).toNat)
 case atStart=>exact⟨0,L,by omega,rfl,rfl,rfl,hM.later hbU,hq,gnew _⟩
 case round=>
  obtain⟨k,C,hk,rfl,hA,hCl,hMk,hrow,hg⟩:=hrel;have hall:=AllC.km hM hg;have HA:Hid (addL kI L L'=addL kI C (L'.drop k)):=hA;clear hA;by_cases hlt:k<L'.length
  ·
   obtain⟨g,off,rfl,c0⟩:=(hR.all hall) k hlt;have hm:=getD_memR hlt;obtain⟨hI,hp⟩:=(hL.all hall) _ hm;have HA1:Hid (addL kI C (L'.drop k)=if hasK kI C (kI (L'.getD k o0).x)=true then (false,C) else addL kI (C ++ [L'.getD k o0]) (L'.drop (k+1))):=addL_one hlt
   generalize L'.getD k o0=R at c0 hm hI hp HA1;have hkey:keyOf Tryz.prog 3 (.int .i64 (R.x.2 0).m)=some (kI R.x):=hK R hm;obtain⟨m0,m1⟩:=box2 hrow;have HR:Hid (wr.heap[w.heap.size]?=some (.cells #[.map (some mb),.func (.func 119) #[] #[]] 210 (0,0))):=hrow;clear hrow;obtain⟨D,hD,hMC⟩:=hMk;have hh0:Maps.has D (kI R.x)=hasK kI C (kI R.x):=by rw [hMC.has,mcL_any]
   unfold Ro.v at c0;rcases hh:hasK kI C (kI R.x)
   ·
    rw [hh] at hh0;have HE:Hid (addL kI L L'=addL kI (C ++ [R]) (L'.drop (k+1))):=by have q:=HA1.out;rw [hh] at q;exact HA.out.trans q
    have hve:rowE (.slice (some ⟨R.b,0,none⟩) R.x.1 R.c)=some (R.d,[]):=rfl;have HV:Hid (rowE (.slice (some ⟨R.b,0,none⟩) R.x.1 R.c)=some (R.d,[])):=hve;clear hve;go_wp2_with (first | (go_at_call 119;refine(iNumKey _ _ _ _ _ hI hp).mono ?_;rintro e w1 ⟨rfl,rfl⟩) | (at_lookup;refine wpList_lookup_own_ok _ rfl _ _ 208 rfl 3 41 lawI Tryz.underlying208 rowE (zeroR _) .nil [] rowE_nil mb _ D rfl hD _ _ rfl hkey ?_;intro vz pz hz;rw [hh0];clear hz) | (at_mapUpdate;refine wpList_mapUpdate_own _ rfl _ _ _ 208 rfl 3 41 lawI Tryz.underlying208 rowE mb _ D rfl hD (by unfold maxLen;omega) _ _ _ rfl rfl hkey R.d [] HV.out ?_;intro w2 hown2 hgrow2) | go_in)
    go_roundw
    case rel=>exact⟨k+1,C ++ [R],by omega,by go_num,HE.out,by simp [hCl];omega,KM.put hMC hh (kI_self _) hown2,rowK HR.out hgrow2 (by omega),gtr hg hgrow2⟩
    case measure=>simp [intOf];omega
   ·
    rw [hh] at hh0;have HE:Hid (addL kI L L'=(false,C)):=by have q:=HA1.out;rw [hh] at q;exact HA.out.trans q
    go_wp2_with (first | (go_at_call 119;refine(iNumKey _ _ _ _ _ hI hp).mono ?_;rintro e w1 ⟨rfl,rfl⟩) | (at_lookup;refine wpList_lookup_own_ok _ rfl _ _ 208 rfl 3 41 lawI Tryz.underlying208 rowE (zeroR _) .nil [] rowE_nil mb _ D rfl hD _ _ rfl hkey ?_;intro vz pz hz;rw [hh0];clear hz) | go_in)
    go_ret
    rw [HE.out];exact⟨rfl,⟨D,hD,hMC⟩,hg⟩
  ·
   obtain rfl:k=L'.length:=by omega
   go_wp2;go_ret
   have HE:=HA.out;rw [List.drop_length,addL] at HE;rw [HE];exact⟨rfl,hMk,hg⟩
theorem iAddS(mb:Nat)(a:Option Addr)(c:Nat)(L L':List Ro)(w:World)(hM:KM 9 kS w mb L)(hR:RS w a L')(hL:RL w L')(hn:L.length+L'.length<=1048576)(hK:∀ r∈L',keyOf Tryz.prog 9 (.string (r.x.2 0).s)=some (kS r.x)) :
 Calls Tryz.prog 176 #[.agg #[.map (some mb),.func (.func 121) #[] #[]],.slice a L'.length c] w fun e w'=>e=.returned (.bool (addL kS L L').1)/\KM 9 kS w' mb (addL kS L L').2/\w.grownBy w' (some mb):=by
 have hbU:=bal w (.cells #[.map (some mb),.func (.func 121) #[] #[]] 217);have hq:=heap_alloc_new w (.cells #[.map (some mb),.func (.func 121) #[] #[]] 217);have hml:=hM.lt;go_enter Tryz.func176,Tryz.ntmps176
 go_wp2;go_loopw [6,7,8,9,12] (fun _ _ _ _ i wr=>∃ (k:Nat) (C:List Ro),k<=L'.length/\i=.int .i64 k/\addL kS L L'=addL kS C (L'.drop k)/\C.length=L.length+k/\KM 9 kS wr mb C/\wr.heap[w.heap.size]?=some (.cells #[.map (some mb),.func (.func 121) #[] #[]] 217 (0,0))/\w.grownBy wr (some mb)) (fun _ _ _ _ i _=>L'.length - (intOf i).toNat)
 case atStart=>exact⟨0,L,by omega,rfl,rfl,rfl,hM.later hbU,hq,gnew _⟩
 case round=>
  obtain⟨k,C,hk,rfl,hA,hCl,hMk,hrow,hg⟩:=hrel;have hall:=AllC.km hM hg;have HA:Hid (addL kS L L'=addL kS C (L'.drop k)):=hA;clear hA;by_cases hlt:k<L'.length
  ·
   obtain⟨g,off,rfl,c0⟩:=(hR.all hall) k hlt;have hm:=getD_memR hlt;obtain⟨hI,hp⟩:=(hL.all hall) _ hm;have HA1:Hid (addL kS C (L'.drop k)=if hasK kS C (kS (L'.getD k o0).x)=true then (false,C) else addL kS (C ++ [L'.getD k o0]) (L'.drop (k+1))):=addL_one hlt
   generalize L'.getD k o0=R at c0 hm hI hp HA1;have hkey:keyOf Tryz.prog 9 (.string (R.x.2 0).s)=some (kS R.x):=hK R hm;obtain⟨m0,m1⟩:=box2 hrow;have HR:Hid (wr.heap[w.heap.size]?=some (.cells #[.map (some mb),.func (.func 121) #[] #[]] 217 (0,0))):=hrow;clear hrow;obtain⟨D,hD,hMC⟩:=hMk;have hh0:Maps.has D (kS R.x)=hasK kS C (kS R.x):=by rw [hMC.has,mcL_any]
   unfold Ro.v at c0;rcases hh:hasK kS C (kS R.x)
   ·
    rw [hh] at hh0;have HE:Hid (addL kS L L'=addL kS (C ++ [R]) (L'.drop (k+1))):=by have q:=HA1.out;rw [hh] at q;exact HA.out.trans q
    have hve:rowE (.slice (some ⟨R.b,0,none⟩) R.x.1 R.c)=some (R.d,[]):=rfl;have HV:Hid (rowE (.slice (some ⟨R.b,0,none⟩) R.x.1 R.c)=some (R.d,[])):=hve;clear hve;go_wp2_with (first | (go_at_call 121;refine(iTextKey _ _ _ _ _ hI hp).mono ?_;rintro e w1 ⟨rfl,rfl⟩) | (at_lookup;refine wpList_lookup_own_ok _ rfl _ _ 215 rfl 9 41 lawS Tryz.underlying215 rowE (zeroR _) .nil [] rowE_nil mb _ D rfl hD _ _ rfl hkey ?_;intro vz pz hz;rw [hh0];clear hz) | (at_mapUpdate;refine wpList_mapUpdate_own _ rfl _ _ _ 215 rfl 9 41 lawS Tryz.underlying215 rowE mb _ D rfl hD (by unfold maxLen;omega) _ _ _ rfl rfl hkey R.d [] HV.out ?_;intro w2 hown2 hgrow2) | go_in)
    go_roundw
    case rel=>exact⟨k+1,C ++ [R],by omega,by go_num,HE.out,by simp [hCl];omega,KM.put hMC hh (kS_self _) hown2,rowK HR.out hgrow2 (by omega),gtr hg hgrow2⟩
    case measure=>simp [intOf];omega
   ·
    rw [hh] at hh0;have HE:Hid (addL kS L L'=(false,C)):=by have q:=HA1.out;rw [hh] at q;exact HA.out.trans q
    go_wp2_with (first | (go_at_call 121;refine(iTextKey _ _ _ _ _ hI hp).mono ?_;rintro e w1 ⟨rfl,rfl⟩) | (at_lookup;refine wpList_lookup_own_ok _ rfl _ _ 215 rfl 9 41 lawS Tryz.underlying215 rowE (zeroR _) .nil [] rowE_nil mb _ D rfl hD _ _ rfl hkey ?_;intro vz pz hz;rw [hh0];clear hz) | go_in)
    go_ret
    rw [HE.out];exact⟨rfl,⟨D,hD,hMC⟩,hg⟩
  ·
   obtain rfl:k=L'.length:=by omega
   go_wp2;go_ret
   have HE:=HA.out;rw [List.drop_length,addL] at HE;rw [HE];exact⟨rfl,hMk,hg⟩
set_option maxRecDepth 20000
set_option maxHeartbeats 8000000
abbrev qXc0:Oper:=⟨some 16,.move (.tmp 5),41,"l5_replay.go:422",#[],none⟩
theorem wp_delete_own{o:Oper}{a:Act}{K:Act->World->Prop}{Q:Exit->Act->World->Prop}(m x:Operand)(t k:TypeId)(ho:o.op=.call { callee:=.builtin .delete,args:=#[m,x],argTypes:=#[t,k] })
 (e:TypeId) (KK:Keyed Tryz.prog k) (ht:Tryz.prog.underlying t=some (.map k e)) (R:Value->Option (Dm×List MemPlace)) (b n:Nat) (D:Dm) (w:World)
 (hm:a.eval m=.map (some b)) (hown:w.ownsMap Tryz.prog k R b n D) (key:Value) (kl:Lit) (hx:a.eval x=key) (hkey:keyOf Tryz.prog k key=some kl)
 (h:∀ w',w'.ownsMap Tryz.prog k R b n (D.del kl)->w.grownBy w' (some b)->K (a.put o.dst (.tuple #[])) w'):o.wp Tryz.prog a w K Q:=by
 obtain⟨w',hrun,r1,r2⟩:=hown.drop KK ht hkey o.type;unfold Oper.wp execOp;simp only [ho,resolve,invoke,builtin,Sem.run_bind,Sem.run_pure,Result.andThen_ok,List.map_toArray,List.map_cons,List.map_nil,hm,hx,hrun]
 exact h w' r1 r2.grown
theorem delL_one{key:Rw->Lit}{C:List Ro}{X:List Rw}{k:Nat}(h:k<X.length):delL key C (X.drop k)=delL key (delK key C (key (X.getD k r0))) (X.drop (k+1)):=by
 rw [List.drop_eq_getElem_cons h,delL];simp [h]
theorem delK_len(key:Rw->Lit)(L:List Ro)(k:Lit):(delK key L k).length<=L.length:=List.length_filter_le _ _
theorem iRemoveI(mb:Nat)(a:Option Addr)(c:Nat)(L:List Ro)(X:List Rw)(w:World)(hM:KM 3 kI w mb L)(hO:OL w a X.length (fun i=>(X.getD i r0).1) (fun i=>(X.getD i r0).2))(hp0:∀ x∈X,0<x.1)(hn:X.length<=1048576)(hK:∀ x∈X,keyOf Tryz.prog 3 (.int .i64 (x.2 0).m)=some (kI x)) :
 Calls Tryz.prog 174 #[.agg #[.map (some mb),.func (.func 119) #[] #[]],.slice a X.length c] w fun e w'=>e=.returned (.tuple #[])/\KM 3 kI w' mb (delL kI L X)/\w.grownBy w' (some mb):=by
 have hbU:=bal w (.cells #[.map (some mb),.func (.func 119) #[] #[]] 210);have hq:=heap_alloc_new w (.cells #[.map (some mb),.func (.func 119) #[] #[]] 210);have hml:=hM.lt;go_enter Tryz.func174,Tryz.ntmps174
 go_wp2;go_loopw [5,8] (fun _ i wr=>∃ (k:Nat) (C:List Ro),k<=X.length/\i=.int .i64 k/\delL kI L X=delL kI C (X.drop k)/\C.length<=L.length/\KM 3 kI wr mb C/\wr.heap[w.heap.size]?=some (.cells #[.map (some mb),.func (.func 119) #[] #[]] 210 (0,0))/\w.grownBy wr (some mb)) (fun _ i _=>X.length - (intOf i).toNat)
 case atStart=>exact⟨0,L,by omega,rfl,rfl,Nat.le_refl _,hM.later hbU,hq,gnew _⟩
 case round=>
  obtain⟨k,C,hk,rfl,hA,hCl,hMk,hrow,hg⟩:=hrel;have hall:=AllC.km hM hg;have HA:Hid (delL kI L X=delL kI C (X.drop k)):=hA;clear hA;by_cases hlt:k<X.length
  ·
   obtain⟨g,off,ai,ci,rfl,c0,hI,hsz⟩:=(hO.all hall) k hlt;have hm:X.getD k r0∈X:=getD_mem hlt;have hp:=hp0 _ hm;have HE:Hid (delL kI L X=delL kI (delK kI C (kI (X.getD k r0))) (X.drop (k+1))):=HA.out.trans (delL_one hlt);have hkey:keyOf Tryz.prog 3 (.int .i64 ((X.getD k r0).2 0).m)=some (kI (X.getD k r0)):=hK _ hm;dsimp only at c0 hI hsz
   generalize X.getD k r0=R at c0 hm hI hp HE hkey hsz;have HR:Hid (wr.heap[w.heap.size]?=some (.cells #[.map (some mb),.func (.func 119) #[] #[]] 210 (0,0))):=hrow;clear hrow;obtain⟨D,hD,hMC⟩:=hMk;go_wp2;refine wp_region_held_drew (S:=fun x=>x.heap[w.heap.size]?=some (.cells #[.map (some mb),.func (.func 119) #[] #[]] 210 (0,0))) (by kernel_rfl) (HR.out) (fun jH=>?_);replace hD:wr.drew.ownsMap Tryz.prog 3 rowE mb _ D:=hD.drew;replace hI:IL wr.drew _ _ _:=hI;have hg2:w.grownBy wr.drew (some mb):=hg.trans ⟨rfl,rfl,rfl,Nat.le_refl _,fun _ _ _=>rfl⟩;generalize wr.drew=v at jH hD hI hg2 ⊢;refine tk 0 (⟨some 12,.fieldAddr 210 (.tmp 2) 0,0,"l5_replay.go:422",#[],none⟩:Oper) (fun x jS=>by go_simp<;>rfl) jH ?_
   try simp only [zS]
   refine tk 1 (⟨some 13,.load 208 (.tmp 12),208,"l5_replay.go:422",#[⟨0,.data⟩],none⟩:Oper) (fun x jS=>by obtain⟨m0_,m1_⟩:=box2 jS;go_simp<;>rfl) jH ?_
   try simp only [zS]
   refine tk 2 (⟨some 14,.fieldAddr 210 (.tmp 2) 1,0,"l5_replay.go:422",#[],none⟩:Oper) (fun x jS=>by go_simp<;>rfl) jH ?_
   try simp only [zS]
   refine tk 3 (⟨some 15,.load 136 (.tmp 14),136,"l5_replay.go:422",#[⟨2,.data⟩],none⟩:Oper) (fun x jS=>by obtain⟨m0_,m1_⟩:=box2 jS;go_simp<;>rfl) jH ?_
   try simp only [zS]
   refine tk 4 qXc0 (fun x jS=>by go_simp<;>rfl) jH ?_
   try simp only [zS]
   refine rd 5 (⟨some 17,.call ⟨.value (.tmp 15),#[.tmp 16],#[41]⟩,3,"l5_replay.go:422",#[⟨3,.data⟩,⟨4,.data⟩],none⟩:Oper) (fun K hK=>?_);go_simp;refine(iNumKey _ _ _ _ _ hI hp).mono ?_;rintro e v ⟨rfl,rfl⟩;refine hK.out _ _ jH (fun jH=>?_);clear hK K;try simp only [zS]
   refine rd 6 (⟨none,.call ⟨.builtin .delete,#[.tmp 13,.tmp 17],#[208,3]⟩,0,"l5_replay.go:422",#[⟨1,.data⟩,⟨5,.data⟩,⟨5,.chain⟩],none⟩:Oper) (fun K hK=>?_);rw [if_pos (by kernel_rfl)];refine wp_delete_own (.tmp 13) (.tmp 17) 208 3 rfl 41 lawI Tryz.underlying208 rowE mb _ D v rfl hD _ _ rfl hkey ?_;intro w2 hown2 hgrow2;have hHeld2:=rowK jH hgrow2 (by omega);refine hK.out _ _ hHeld2 (fun jH=>?_);clear hK K;try simp only [Act.put]
   refine wpAnyH_done (by kernel_rfl) ?_ _;go_wp2;go_roundw
   case rel=>exact⟨k+1,delK kI C (kI R),by omega,by go_num,HE.out,Nat.le_trans (delK_len _ _ _) hCl,KM.del hMC hown2,hHeld2,gtr hg2 hgrow2⟩
   case measure=>simp [intOf];omega
  ·
   obtain rfl:k=X.length:=by omega
   go_wp2;go_end0
   have HE:=HA.out;rw [List.drop_length,delL] at HE;rw [HE];exact⟨rfl,hMk,hg⟩
theorem iRemoveS(mb:Nat)(a:Option Addr)(c:Nat)(L:List Ro)(X:List Rw)(w:World)(hM:KM 9 kS w mb L)(hO:OL w a X.length (fun i=>(X.getD i r0).1) (fun i=>(X.getD i r0).2))(hp0:∀ x∈X,0<x.1)(hn:X.length<=1048576)(hK:∀ x∈X,keyOf Tryz.prog 9 (.string (x.2 0).s)=some (kS x)) :
 Calls Tryz.prog 179 #[.agg #[.map (some mb),.func (.func 121) #[] #[]],.slice a X.length c] w fun e w'=>e=.returned (.tuple #[])/\KM 9 kS w' mb (delL kS L X)/\w.grownBy w' (some mb):=by
 have hbU:=bal w (.cells #[.map (some mb),.func (.func 121) #[] #[]] 217);have hq:=heap_alloc_new w (.cells #[.map (some mb),.func (.func 121) #[] #[]] 217);have hml:=hM.lt;go_enter Tryz.func179,Tryz.ntmps179
 go_wp2;go_loopw [5,8] (fun _ i wr=>∃ (k:Nat) (C:List Ro),k<=X.length/\i=.int .i64 k/\delL kS L X=delL kS C (X.drop k)/\C.length<=L.length/\KM 9 kS wr mb C/\wr.heap[w.heap.size]?=some (.cells #[.map (some mb),.func (.func 121) #[] #[]] 217 (0,0))/\w.grownBy wr (some mb)) (fun _ i _=>X.length - (intOf i).toNat)
 case atStart=>exact⟨0,L,by omega,rfl,rfl,Nat.le_refl _,hM.later hbU,hq,gnew _⟩
 case round=>
  obtain⟨k,C,hk,rfl,hA,hCl,hMk,hrow,hg⟩:=hrel;have hall:=AllC.km hM hg;have HA:Hid (delL kS L X=delL kS C (X.drop k)):=hA;clear hA;by_cases hlt:k<X.length
  ·
   obtain⟨g,off,ai,ci,rfl,c0,hI,hsz⟩:=(hO.all hall) k hlt;have hm:X.getD k r0∈X:=getD_mem hlt;have hp:=hp0 _ hm;have HE:Hid (delL kS L X=delL kS (delK kS C (kS (X.getD k r0))) (X.drop (k+1))):=HA.out.trans (delL_one hlt);have hkey:keyOf Tryz.prog 9 (.string ((X.getD k r0).2 0).s)=some (kS (X.getD k r0)):=hK _ hm;dsimp only at c0 hI hsz
   generalize X.getD k r0=R at c0 hm hI hp HE hkey hsz;have HR:Hid (wr.heap[w.heap.size]?=some (.cells #[.map (some mb),.func (.func 121) #[] #[]] 217 (0,0))):=hrow;clear hrow;obtain⟨D,hD,hMC⟩:=hMk;go_wp2;refine wp_region_held_drew (S:=fun x=>x.heap[w.heap.size]?=some (.cells #[.map (some mb),.func (.func 121) #[] #[]] 217 (0,0))) (by kernel_rfl) (HR.out) (fun jH=>?_);replace hD:wr.drew.ownsMap Tryz.prog 9 rowE mb _ D:=hD.drew;replace hI:IL wr.drew _ _ _:=hI;have hg2:w.grownBy wr.drew (some mb):=hg.trans ⟨rfl,rfl,rfl,Nat.le_refl _,fun _ _ _=>rfl⟩;generalize wr.drew=v at jH hD hI hg2 ⊢;refine tk 0 (⟨some 12,.fieldAddr 217 (.tmp 2) 0,0,"l5_replay.go:422",#[],none⟩:Oper) (fun x jS=>by go_simp<;>rfl) jH ?_
   try simp only [zS]
   refine tk 1 (⟨some 13,.load 215 (.tmp 12),215,"l5_replay.go:422",#[⟨0,.data⟩],none⟩:Oper) (fun x jS=>by obtain⟨m0_,m1_⟩:=box2 jS;go_simp<;>rfl) jH ?_
   try simp only [zS]
   refine tk 2 (⟨some 14,.fieldAddr 217 (.tmp 2) 1,0,"l5_replay.go:422",#[],none⟩:Oper) (fun x jS=>by go_simp<;>rfl) jH ?_
   try simp only [zS]
   refine tk 3 (⟨some 15,.load 162 (.tmp 14),162,"l5_replay.go:422",#[⟨2,.data⟩],none⟩:Oper) (fun x jS=>by obtain⟨m0_,m1_⟩:=box2 jS;go_simp<;>rfl) jH ?_
   try simp only [zS]
   refine tk 4 qXc0 (fun x jS=>by go_simp<;>rfl) jH ?_
   try simp only [zS]
   refine rd 5 (⟨some 17,.call ⟨.value (.tmp 15),#[.tmp 16],#[41]⟩,9,"l5_replay.go:422",#[⟨3,.data⟩,⟨4,.data⟩],none⟩:Oper) (fun K hK=>?_);go_simp;refine(iTextKey _ _ _ _ _ hI hp).mono ?_;rintro e v ⟨rfl,rfl⟩;refine hK.out _ _ jH (fun jH=>?_);clear hK K;try simp only [zS]
   refine rd 6 (⟨none,.call ⟨.builtin .delete,#[.tmp 13,.tmp 17],#[215,9]⟩,0,"l5_replay.go:422",#[⟨1,.data⟩,⟨5,.data⟩,⟨5,.chain⟩],none⟩:Oper) (fun K hK=>?_);rw [if_pos (by kernel_rfl)];refine wp_delete_own (.tmp 13) (.tmp 17) 215 9 rfl 41 lawS Tryz.underlying215 rowE mb _ D v rfl hD _ _ rfl hkey ?_;intro w2 hown2 hgrow2;have hHeld2:=rowK jH hgrow2 (by omega);refine hK.out _ _ hHeld2 (fun jH=>?_);clear hK K;try simp only [Act.put]
   refine wpAnyH_done (by kernel_rfl) ?_ _;go_wp2;go_roundw
   case rel=>exact⟨k+1,delK kS C (kS R),by omega,by go_num,HE.out,Nat.le_trans (delK_len _ _ _) hCl,KM.del hMC hown2,hHeld2,gtr hg2 hgrow2⟩
   case measure=>simp [intOf];omega
  ·
   obtain rfl:k=X.length:=by omega
   go_wp2;go_end0
   have HE:=HA.out;rw [List.drop_length,delL] at HE;rw [HE];exact⟨rfl,hMk,hg⟩
end Go.Proofs.YtgeiamgeclbiaaaGreatDoor
