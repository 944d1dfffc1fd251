import Derived.Test.YtgeiamgeclbiaaaGreatDoorVi
import Derived.RegionCalls
namespace Go.Proofs.YtgeiamgeclbiaaaGreatDoor
open Go.RowKit Go.Maps Go.WideMaps
set_option maxRecDepth 20000
set_option maxHeartbeats 16000000
def goodR(n:Nat)(C:Nat->Clm)(F:Nat->Itm):Prop:=∀ j,j<n->(F j).s.size<=200/\goodV (F j)/\(F j).o=(C j).t
theorem iValue5(ac:Option Addr)(n cc:Nat)(C:Nat->Clm)(mb:Nat)(ar:Option Addr)(cr:Nat)(R:Nat->Itm)(a:Option Addr)(m c:Nat)(I:Nat->Itm)(w:World)(hP:PlAt w mb n C)(hdp:∀ k,k<n->hasCol C (C k).s k=false)(hR:IL w ar n R)(hI:IL w a m I)(hm:m<=100)(hx:ex I m=some 1)(hk0:(ck C n I m).2=0)(hg:goodR n C R) :
 Calls Tryz.prog 90 #[.agg #[.slice ac n cc,.map (some mb)],.slice a m c,.slice ar n cr] w fun e w'=>e=.returned (.agg #[.int .i64 (vlR C n R I m).o,.int .i64 (vlR C n R I m).m,.string (vlR C n R I m).s])/\Below w.heap.size w w':=by
 have hbU:Below w.heap.size w (((w.alloc (.cells #[.slice ac n cc,.map (some mb)] 79)).alloc (.cells #[.slice ar n cr] 41)).alloc (.cells #[.int .i64 0,.int .i64 0,.string ⟨#[]⟩] 66)):=below3 _ _ _ _;have hq0:(((w.alloc (.cells #[.slice ac n cc,.map (some mb)] 79)).alloc (.cells #[.slice ar n cr] 41)).alloc (.cells #[.int .i64 0,.int .i64 0,.string ⟨#[]⟩] 66)).heap[w.heap.size]?=some (.cells #[.slice ac n cc,.map (some mb)] 79 (0,0)):=rowL (rowL (heap_alloc_new w _) (bal _ _)) (bal _ _);have hq1:(((w.alloc (.cells #[.slice ac n cc,.map (some mb)] 79)).alloc (.cells #[.slice ar n cr] 41)).alloc (.cells #[.int .i64 0,.int .i64 0,.string ⟨#[]⟩] 66)).heap[w.heap.size+1]?=some (.cells #[.slice ar n cr] 41 (0,0)):=by
  have q:=heap_alloc_new (w.alloc (.cells #[.slice ac n cc,.map (some mb)] 79)) (.cells #[.slice ar n cr] 41);rw [World.size_alloc] at q;exact rowL q (bal _ _)
 have hq2:(((w.alloc (.cells #[.slice ac n cc,.map (some mb)] 79)).alloc (.cells #[.slice ar n cr] 41)).alloc (.cells #[.int .i64 0,.int .i64 0,.string ⟨#[]⟩] 66)).heap[w.heap.size+1+1]?=some (.cells #[.int .i64 0,.int .i64 0,.string ⟨#[]⟩] 66 (0,0)):=by
  have q:=heap_alloc_new ((w.alloc (.cells #[.slice ac n cc,.map (some mb)] 79)).alloc (.cells #[.slice ar n cr] 41)) (.cells #[.int .i64 0,.int .i64 0,.string ⟨#[]⟩] 66);rw [World.size_alloc,World.size_alloc] at q;exact q
 have HW:=iWalkV n C mb ar cr R (w.heap.size+1) w.heap.size a m c I _ (hP.later hbU) hdp (hR.later hbU) (cell_of_row _ _ 0 _ _ _ hq1) (cell_of_row _ _ 1 _ _ _ hq0) (hI.later hbU) hm hx hk0 (fun j hj=>(hg j hj).1) (fun j hj=>(hg j hj).2);obtain⟨x,hxx⟩:∃ x,vlR C n R I m=x:=⟨_,rfl⟩;rw [hxx] at HW ⊢;obtain⟨xo,xm,xs⟩:=x;simp only at HW ⊢
 clear hxx hx hk0 hdp hg;go_enter Tryz.func90,Tryz.ntmps90
 go_wp2_with (go_at_call 134;refine HW.mono ?_;rintro e w1 ⟨rfl,hb1⟩;have r2:=rowL (rowL hq2 hb1) (bal w1 (.cells #[.int .i64 xo,.int .i64 xm,.string xs] 66));obtain⟨m0,m1,m2,f0,f1,f2⟩:=box3 r2)
 refine bodyPost_ret (v:=.agg #[.int .i64 xo,.int .i64 xm,.string xs]) (results_cell_row Tryz.results90 _ _ (w.heap.size+1+1) 66 _ (0,0) _ rfl (row3 r2 _ _ _) Tryz.underlying66 rfl (by kernel_rfl)) rfl ⟨rfl,bset3 (bstep hbU (bstep hb1 (bal _ _))) (by omega) _ _ _⟩
def ftS(C:Nat->Clm)(n:Nat)(m:Nat->Nat)(R:Nat->Nat->Itm)(W:Nat->Itm)(n6:Nat):Nat->List Rw
 | 0=>[]
 | k+1=>ftS C n m R W n6 k ++ opt (fitB C n (R k) W n6) (m k,R k)
theorem ftS_len{C:Nat->Clm}{n:Nat}{m:Nat->Nat}{R:Nat->Nat->Itm}{W:Nat->Itm}{n6:Nat}:∀ {k:Nat},(ftS C n m R W n6 k).length<=k
 | 0=>by simp [ftS]
 | k+1=>by
  have ih:=ftS_len (C:=C) (n:=n) (m:=m) (R:=R) (W:=W) (n6:=n6) (k:=k);simp only [ftS,List.length_append,opt_len]
  split <;> omega
theorem ftS_mem{C:Nat->Clm}{n:Nat}{m:Nat->Nat}{R:Nat->Nat->Itm}{W:Nat->Itm}{n6:Nat}{P:Rw->Prop}:∀ {k:Nat},(∀ j,j<k->P (m j,R j))->∀ x∈ftS C n m R W n6 k,P x
 | 0,_,x,hx=>by cases hx
 | k+1,h,x,hx=>by
  simp only [ftS,List.mem_append] at hx
  rcases hx with hx | hx
  · exact ftS_mem (fun j hj=>h j (by omega)) x hx
  · rw [opt_mem hx];exact h k (by omega)
theorem iFitting(ac:Option Addr)(n cc:Nat)(C:Nat->Clm)(mb:Nat)(ar:Option Addr)(dr cr:Nat)(dm:Nat->Nat)(dR:Nat->Nat->Itm)(a6:Option Addr)(n6 c6:Nat)(W:Nat->Itm)(w0 w:World)(hb0:Below w0.heap.size w0 w)(hP:PlAt w mb n C)(hdp:∀ k,k<n->hasCol C (C k).s k=false)(hR:OL w0 ar dr dm dR)(hW:IL w a6 n6 W)(hok:okWhere W n6=true)(hcw:cwR C n W n6=0)(hN:Nice n dr dm dR)(hg:∀ k,k<dr->goodR n C (dR k)) :
 Calls Tryz.prog 89 #[.agg #[.slice ac n cc,.map (some mb)],.slice ar dr cr,.slice a6 n6 c6] w fun e w'=>∃ a' c',e=.returned (.slice a' (ftS C n dm dR W n6 dr).length c')/\OD (fun b=>b<w0.heap.size∨w.heap.size<=b) w' a' (ftS C n dm dR W n6 dr)/\Below w.heap.size w w':=by
 have HDP:Hid (∀ k,k<n->hasCol C (C k).s k=false):=hdp;have HN:Hid (Nice n dr dm dR):=hN;have HG:Hid (∀ k,k<dr->goodR n C (dR k)):=hg;have HOK:Hid (okWhere W n6=true/\cwR C n W n6=0):=⟨hok,hcw⟩;have hs00:=hb0.size;have hn1:=hN.n1;have hr1:=hN.r1;clear hdp hN hg hok hcw;obtain⟨jr,hir,hzr0,hzr1,hzr2⟩:=info_parts Tryz.infoRow;have HIr:Hid (Tryz.prog.info? 41=some jr):=hir;clear hir;have hb1:=bal w (.cells #[.slice ac n cc,.map (some mb)] 79);have hq0:=heap_alloc_new w (.cells #[.slice ac n cc,.map (some mb)] 79);have hs1:(w.alloc (.cells #[.slice ac n cc,.map (some mb)] 79)).heap.size=w.heap.size+1:=World.size_alloc _ _;have hO0:((w.alloc (.cells #[.slice ac n cc,.map (some mb)] 79)).alloc (.cells #[] 41)).ownsRow (w.heap.size+1) 41 1 (.slice (some ⟨w.heap.size+1,0,none⟩) 0 0) 0 []:=by
  have q:=World.ownsRow_made (base:=w.heap.size+1) (e:=41) (size:=1) (w.alloc (.cells #[.slice ac n cc,.map (some mb)] 79)) #[] 0 (by rw [hs1];exact Nat.le_refl _) (by unfold maxLen;omega) rfl;rw [hs1] at q;exact q
 have hb2:=bal (w.alloc (.cells #[.slice ac n cc,.map (some mb)] 79)) (.cells #[] 41);go_enter Tryz.func89,Tryz.ntmps89
 go_wp2;go_loopw [7,9,13] (fun v _ i wr=>∃ (k:Nat) (A:List Rw) (g cap:Nat) (f:Nat->List Value),k<=dr/\i=.int .i64 k/\v=.slice (some ⟨g,0,none⟩) A.length cap/\ftS C n dm dR W n6 k=A/\RO (w.heap.size+1) (fun b=>b<w0.heap.size) wr (.slice (some ⟨g,0,none⟩) A.length cap) A.length (fun i=>A.getD i r0) f/\Below (w.alloc (.cells #[.slice ac n cc,.map (some mb)] 79)).heap.size (w.alloc (.cells #[.slice ac n cc,.map (some mb)] 79)) wr) (fun _ _ i _=>dr - (intOf i).toNat)
 case atStart=>exact⟨0,[],w.heap.size+1,0,fun _=>[],by omega,rfl,rfl,rfl,GO.nil hO0,hb2⟩
 case round=>
  obtain⟨k,A,g,cap,f,hk,rfl,rfl,hft,hRO,hbr⟩:=hrel;have HFT:Hid (ftS C n dm dR W n6 k=A):=hft;have hAl:A.length<=k:=by rw [←hft];exact ftS_len
  clear hft;have hbw:=bstep hb1 hbr;have hsr:=hbr.size;have q0:=rowL hq0 hbr;obtain⟨c0,c1⟩:wr.cell? ⟨w.heap.size,0,none⟩=some (.slice ac n cc)/\wr.cell? ⟨w.heap.size,1,none⟩=some (.map (some mb)):=⟨cell_of_row _ _ 0 _ _ _ q0,cell_of_row _ _ 1 _ _ _ q0⟩;have hgl:=hRO.own.lt g rfl;by_cases hlt:k<dr
  rotate_left
  ·
   obtain rfl:k=dr:=by omega
   obtain⟨a',c',e',hOD⟩:=RO.od (D':=fun b=>b<w0.heap.size∨w.heap.size<=b) hRO (fun b hx=>Or.inl hx) (fun b hx=>Or.inr (by omega));obtain⟨rfl,rfl⟩:some ⟨g,0,none⟩=a'/\cap=c':=by simpa using e'
   go_wp2;go_ret
   rw [HFT.out];exact⟨_,_,rfl,hOD,hbw⟩
  obtain⟨bR,offR,ai,ci,rfl,d1,hLE,hI⟩:=ER.of hR hlt;have hmk:=HN.out.len k hlt;have d2:=keepB (bstep hb0 hbw) d1;rw [hmk] at d2 hI;have HLE:Hid (∀ W',Below w0.heap.size w0 W'->Liv (fun b=>b<w0.heap.size) W' (ER [.slice ai n ci] (dm k,dR k))):=fun W' hW'=>by
   have:=hLE.later hW';rwa [show Value.slice ai (dm k) ci=.slice ai n ci from by rw [hmk]] at this
  clear hmk d1 hLE;have hkr:(k:Int)<dr:=by omega
  have HST0:Hid (ftS C n dm dR W n6 (k+1)=A ++ opt (fitB C n (dR k) W n6) (dm k,dR k)):=by show _=_;rw [ftS,HFT.out]
  by_cases h6:n6=0
  ·
   subst h6;have HST:Hid (ftS C n dm dR W 0 (k+1)=A ++ opt true (dm k,dR k)):=by
    show _=_
    rw [HST0.out];rfl
   go_wp2_with ((at_builtin;refine wpList_append_lies _ rfl _ _ _ rfl (w.heap.size+1) 41 jr (.slice none 0 0) 1 24 Tryz.underlying33 HIr.out hzr0 hzr1 hzr2 rfl (by omega) (.slice (some ⟨g,0,none⟩) A.length cap) A.length (flt f A.length) rfl (hRO.later (bal _ _)).own ⟨wr.heap.size,0,none⟩ 1 1 [.slice ai n ci] rfl rfl (World.news_of_block (heap_alloc_new wr _)) (ones _ rfl) (by omega) (by unfold maxLen;omega) (by omega) (by simp;omega) _ rfl ?_;intro g8 cap8 w8 hO8 hgr8 hat8 hlt8))
   have hL4:Liv (fun b=>b<w0.heap.size/\some b≠(Value.slice (some ⟨g,0,none⟩) A.length cap).ownBlock) wr (ER [.slice ai n ci] (dm k,dR k)):=(HLE.out _ (bstep hb0 hbw)).wide (fun b hx _=>⟨hx,by show some b≠some g;intro e2;have e3:b=g:=Option.some.inj e2;omega⟩);have hP8:=GO.snoc (x:=(dm k,dR k)) (hRO.later (bal _ _)) (c:=[.slice ai n ci]) rfl (hL4.later (bal _ _)) hO8 hgr8 hat8;have hb8:=gB (bstep (hbr) (bal _ _)) (r:=g) hgr8 (by omega);have eA:(A ++ [(dm k,dR k)]).length=A.length+1:=by simp
   go_roundw
   case rel=>exact⟨k+1,A ++ [(dm k,dR k)],g8,cap8,_,by omega,by go_num,by rw [eA],by rw [HST.out];rfl,hP8,hb8⟩
   case measure=>simp [intOf];omega
  ·
   obtain⟨h1,h2,h3⟩:=okWhere_out HOK.out.1 h6;have n0:((n6:Int) == 0)=false:=by simp;omega
   have HVL:=iValue5 ac n cc C mb ai ci (dR k) a6 n6 c6 W wr (hP.later hbw) HDP.out (hI.later (bstep hb0 hbw)) (hW.later hbw) h1 h3 (cwR_ok HOK.out.2 h6) (HG.out k hlt);obtain⟨x,hx⟩:∃ x,vlR C n (dR k) W n6=x:=⟨_,rfl⟩;rw [hx] at HVL;obtain⟨xo,xm,xs⟩:=x;simp only at HVL
   have HFB:Hid (fitB C n (dR k) W n6=!decide (xm=0)):=by show _=_;unfold fitB;rw [hx];simp [h6]
   clear hx h3 h6;by_cases e:xm=0
   ·
    subst e;have hfd:∀ v:World,(Instr.field 66 (.agg #[.int .i64 xo,.int .i64 0,.string xs]) 1).run Tryz.prog v=.ok (.int .i64 0) v:=fun v=>Tryz.fieldVal _ _ _ v;go_wp2_with (go_at_call 90;refine HVL.mono ?_;rintro e w4 ⟨rfl,hb4⟩)
    go_roundw
    case rel=>exact⟨k+1,A,g,cap,f,by omega,by go_num,rfl,by rw [HST0.out,HFB.out];simp [opt],hRO.later hb4,bstep hbr hb4⟩
    case measure=>simp [intOf];omega
   ·
    have n1:(xm != 0)=true:=by simpa using e
    have HST:Hid (ftS C n dm dR W n6 (k+1)=A ++ opt true (dm k,dR k)):=by
     show _=_
     rw [HST0.out,HFB.out];simp [e]
    clear e;have hfd:∀ v:World,(Instr.field 66 (.agg #[.int .i64 xo,.int .i64 xm,.string xs]) 1).run Tryz.prog v=.ok (.int .i64 xm) v:=fun v=>Tryz.fieldVal _ _ _ v;go_wp2_with (first | (at_builtin;have _h:=hb4;refine wpList_append_lies _ rfl _ _ _ rfl (w.heap.size+1) 41 jr (.slice none 0 0) 1 24 Tryz.underlying33 HIr.out hzr0 hzr1 hzr2 rfl (by omega) (.slice (some ⟨g,0,none⟩) A.length cap) A.length (flt f A.length) rfl (hRO4.later (bal _ _)).own ⟨w4.heap.size,0,none⟩ 1 1 [.slice ai n ci] rfl rfl (World.news_of_block (heap_alloc_new w4 _)) (ones _ rfl) (by omega) (by unfold maxLen;omega) (by omega) (by simp;omega) _ rfl ?_;intro g8 cap8 w8 hO8 hgr8 hat8 hlt8) | (go_at_call 90;refine HVL.mono ?_;rintro e w4 ⟨rfl,hb4⟩;have hRO4:=hRO.later hb4;have hss4:=hb4.size))
    have hL4:Liv (fun b=>b<w0.heap.size/\some b≠(Value.slice (some ⟨g,0,none⟩) A.length cap).ownBlock) w4 (ER [.slice ai n ci] (dm k,dR k)):=(HLE.out _ (bstep hb0 (bstep hbw hb4))).wide (fun b hx _=>⟨hx,by show some b≠some g;intro e2;have e3:b=g:=Option.some.inj e2;omega⟩);have hP8:=GO.snoc (x:=(dm k,dR k)) (hRO4.later (bal _ _)) (c:=[.slice ai n ci]) rfl (hL4.later (bal _ _)) hO8 hgr8 hat8;have hb8:=gB (bstep (bstep hbr hb4) (bal _ _)) (r:=g) hgr8 (by omega);have eA:(A ++ [(dm k,dR k)]).length=A.length+1:=by simp
    go_roundw
    case rel=>exact⟨k+1,A ++ [(dm k,dR k)],g8,cap8,_,by omega,by go_num,by rw [eA],by rw [HST.out];rfl,hP8,hb8⟩
    case measure=>simp [intOf];omega
set_option maxRecDepth 20000
set_option maxHeartbeats 4000000
def lonI(X:Nat->Itm):Nat->Nat
 | 0=>0
 | k+1=>max (lonI X k) (X k).s.size
theorem lonI_le{X:Nat->Itm}:∀ {n:Nat},(∀ k,k<n->(X k).s.size<=1048576)->lonI X n<=1048576
 | 0,_=>by simp [lonI]
 | n+1,h=>by
  have:=lonI_le (X:=X) (n:=n) (fun k hk=>h k (by omega));have h2:=h n (by omega);rw [lonI];omega
theorem iLongest(a:Option Addr)(m c:Nat)(X:Nat->Itm)(w:World)(h:IL w a m X)(hm:m<=1048576) :
 Calls Tryz.prog 91 #[.slice a m c] w fun e w'=>e=.returned (.int .i64 (lonI X m))/\Below w.heap.size w w':=by
 have hle:∀ k,k<=m->lonI X k<=1048576:=fun k hk=>lonI_le (fun j hj=>by obtain⟨_,_,_,_,_,_,hz⟩:=h j (by omega);exact hz);have HLE:Hid (∀ k,k<=m->lonI X k<=1048576):=hle;clear hle;go_enter Tryz.func91,Tryz.ntmps91
 go_wp2;go_loopw [3,5,8] (fun v _ i wr=>∃ k:Nat,k<=m/\i=.int .i64 k/\v=.int .i64 (lonI X k)/\Below w.heap.size w wr) (fun _ _ i _=>m - (intOf i).toNat)
 case atStart=>exact⟨0,Nat.zero_le _,rfl,rfl,Below.refl _ _⟩
 case round=>
  obtain⟨k,hk,rfl,rfl,hb⟩:=hrel;by_cases hlt:k<m
  ·
   obtain⟨b,off,rfl,c0,c1,c2,hs⟩:=h.later hb k hlt;have hkm:(k:Int)<m:=by omega
   have HN:Hid (lonI X (k+1)=max (lonI X k) (X k).s.size):=rfl;have hl0:=HLE.out k (by omega);obtain⟨y,hy⟩:∃ y,lonI X k=y:=⟨_,rfl⟩;rw [hy] at HN hl0 ⊢;clear hy;obtain⟨xo,xm,xs,hx⟩:∃ xo xm xs,X k=⟨xo,xm,xs⟩:=⟨_,_,_,rfl⟩;rw [hx] at HN c0 c1 c2 hs;simp only at HN c0 c1 c2 hs
   clear hx;go_wp2;go_roundw
   case rel=>exact⟨k+1,by omega,by go_num,by rw [HN.out];first | rfl | (congr 1;omega),bstep hb (bal _ _)⟩
   case measure=>simp [intOf];omega
  ·
   obtain rfl:k=m:=by omega
   go_wp2;go_ret
   exact⟨rfl,hb⟩
def PV(w:World)(gv n q:Nat)(X:Nat->Itm):Prop:=∃ cur:Array Value,w.heap[gv]?=some (.cells cur 66 (0,0))/\cur.size=n * 3/\∀ i,i<q->cur[i * 3]?=some (.int .i64 (X i).o)/\cur[i * 3+1]?=some (.int .i64 (X i).m)/\cur[i * 3+2]?=some (.string (X i).s)
theorem PV.later{w w':World}{gv n q:Nat}{X:Nat->Itm}(h:PV w gv n q X)(hb:Below w.heap.size w w'):PV w' gv n q X:=by
 obtain⟨cur,h1,h2,h3⟩:=h;exact⟨cur,rowL h1 hb,h2,h3⟩
theorem PV.cell{w:World}{gv n q j:Nat}{X:Nat->Itm}(h:PV w gv n q X)(hj:j<n):∃ v0 v1 v2,w.cell? ⟨gv,j * 3,none⟩=some v0/\w.cell? ⟨gv,j * 3+1,none⟩=some v1/\w.cell? ⟨gv,j * 3+2,none⟩=some v2/\w.frozen? ⟨gv,j * 3,none⟩=false/\w.frozen? ⟨gv,j * 3+1,none⟩=false/\w.frozen? ⟨gv,j * 3+2,none⟩=false:=by
 obtain⟨cur,h1,h2,-⟩:=h;obtain⟨v0,e0⟩:=there (A:=cur) (k:=j * 3) (by omega);obtain⟨v1,e1⟩:=there (A:=cur) (k:=j * 3+1) (by omega);obtain⟨v2,e2⟩:=there (A:=cur) (k:=j * 3+2) (by omega);exact⟨v0,v1,v2,(cell_of_row _ _ _ _ _ _ h1).trans e0,(cell_of_row _ _ _ _ _ _ h1).trans e1,(cell_of_row _ _ _ _ _ _ h1).trans e2,frozen_of_row _ _ _ _ _ h1,frozen_of_row _ _ _ _ _ h1,frozen_of_row _ _ _ _ _ h1⟩
theorem PV.set{w:World}{gv n q:Nat}{X:Nat->Itm}{x:Itm}(h:PV w gv n q X)(hq:q<n)(hx:X q=x):PV (((w.setCell ⟨gv,q * 3,none⟩ (.int .i64 x.o)).setCell ⟨gv,q * 3+1,none⟩ (.int .i64 x.m)).setCell ⟨gv,q * 3+2,none⟩ (.string x.s)) gv n (q+1) X:=by
 obtain⟨cur,h1,h2,h3⟩:=h;refine⟨_,heap_setCell_same _ _ (q * 3+2) _ _ _ (heap_setCell_same _ _ (q * 3+1) _ _ _ (heap_setCell_same _ _ (q * 3) _ _ _ h1)),by simp [h2],fun i hi=>?_⟩;by_cases e:i=q
 · subst e;rw [hx];refine⟨?_,?_,?_⟩ <;> simp [Array.getElem?_setIfInBounds] <;> omega
 ·
  obtain⟨a0,a1,a2⟩:=h3 i (by omega);simp only [Array.getElem?_setIfInBounds]
  refine⟨?_,?_,?_⟩
  · rw [if_neg (by omega),if_neg (by omega),if_neg (by omega)];exact a0
  · rw [if_neg (by omega),if_neg (by omega),if_neg (by omega)];exact a1
  · rw [if_neg (by omega),if_neg (by omega),if_neg (by omega)];exact a2
theorem PV.il{w:World}{gv n:Nat}{X:Nat->Itm}(h:PV w gv n n X)(hs:∀ i,i<n->(X i).s.size<=1048576):IL w (some ⟨gv,0,none⟩) n X:=fun k hk=>by
 obtain⟨cur,h1,h2,h3⟩:=h;obtain⟨a0,a1,a2⟩:=h3 k hk;refine⟨gv,0,rfl,?_,?_,?_,hs k hk⟩
 · rw [Nat.zero_add];exact(cell_of_row _ _ _ _ _ _ h1).trans a0
 · rw [Nat.zero_add];exact(cell_of_row _ _ _ _ _ _ h1).trans a1
 · rw [Nat.zero_add];exact(cell_of_row _ _ _ _ _ _ h1).trans a2
theorem OD.grown{D:Nat->Prop}{w w':World}{a:Option Addr}{A:List Rw}{r:Option Nat}(h:OD D w a A)(hg:w.grownBy w' r)(hD:∀ b,D b->some b≠r):OD D w' a A:=fun k hk=>by
 obtain⟨b,off,i,c,e,hd,c0,hl⟩:=h k hk;exact⟨b,off,i,c,e,hd,(World.cell?_of_block (hg.block _ (World.block_lt_of_cell? w _ c0) (hD _ hd))).trans c0,hl.grown hg hD⟩
theorem grefl(w:World)(r:Option Nat):w.grownBy w r:=⟨rfl,rfl,rfl,Nat.le_refl _,fun _ _ _=>rfl⟩
def WR(w:World)(lo hi:Nat)(t:TypeId)(z:Nat)(a:Option Addr)(n:Nat):Prop:=
 n=0∨∃ g cur,a=some ⟨g,0,none⟩/\lo<=g/\g<hi/\w.heap[g]?=some (.cells cur t (0,0))/\n * z<=cur.size
def bk(a:Option Addr)(n:Nat):Option Nat:=if n=0 then none else a.map (·.block)
def Dj(a:Option Addr)(n:Nat)(a':Option Addr)(n':Nat):Prop:=bk a n=none∨bk a n≠bk a' n'
theorem Dj.zero(a a':Option Addr)(n':Nat):Dj a 0 a' n':=Or.inl rfl
theorem Dj.of{g g' n n':Nat}(h:g≠g'):Dj (some ⟨g,0,none⟩) n (some ⟨g',0,none⟩) n':=by
 unfold Dj bk;by_cases e:n=0
 · rw [if_pos e];exact Or.inl rfl
 ·
  rw [if_neg e];refine Or.inr ?_;by_cases e':n'=0
  · rw [if_pos e'];simp
  · rw [if_neg e'];simpa using h
def KpR(lo hi:Nat)(w w':World):Prop:=∀ g,lo<=g->g<hi->∀ o,w.heap[g]?=some o->w'.heap[g]?=some o
theorem KpR.below{lo hi:Nat}{w w':World}(h:Below w.heap.size w w'):KpR lo hi w w':=fun _ _ _ _ hg=>rowL hg h
theorem KpR.trans{lo hi:Nat}{a b c:World}(h:KpR lo hi a b)(k:KpR lo hi b c):KpR lo hi a c:=fun g h1 h2 o hg=>k g h1 h2 o (h g h1 h2 o hg)
theorem KpR.set{lo hi R i:Nat}{w:World}{v:Value}(h:R<lo):KpR lo hi w (w.setCell ⟨R,i,none⟩ v):=fun g h1 _ o hg=>rowO hg (by omega)
def RowsAt(w:World)(lo gg n7 L:Nat)(f:Nat->List Value):Prop:=∃ B:Nat->Nat,(∀ i,i<L->f i=[.slice (some ⟨B i,0,none⟩) n7 n7]/\lo<=B i/\B i≠gg/\∃ cur,w.heap[B i]?=some (.cells cur 66 (0,0))/\cur.size=n7 * 3)/\∀ i k,k<i->i<L->B k<B i
theorem RowsAt.nil(w:World)(lo gg n7:Nat)(f:Nat->List Value):RowsAt w lo gg n7 0 f:=⟨fun _=>0,fun i hi=>by omega,fun i k _ hi=>by omega⟩
theorem RowsAt.snoc{wo v w8:World}{lo gg n7 L g8:Nat}{f:Nat->List Value}(h:RowsAt wo lo gg n7 L f)(hlo:lo<=wo.heap.size)(hgg:gg<wo.heap.size)(hbx:Below wo.heap.size wo v)(hnew:∃ cur,v.heap[wo.heap.size]?=some (.cells cur 66 (0,0))/\cur.size=n7 * 3)(hgr:v.grownBy w8 (some gg))(hat:some gg=some g8∨g8=v.heap.size):RowsAt w8 lo g8 n7 (L+1) (fun i=>if i<L then f i else [.slice (some ⟨wo.heap.size,0,none⟩) n7 n7]):=by
 obtain⟨B,h1,h2⟩:=h;obtain⟨cur,hn1,hn2⟩:=hnew;have hlt:∀ i,i<L->B i<wo.heap.size:=fun i hi=>by
  obtain⟨-,-,-,c,hc,-⟩:=h1 i hi;exact(Array.getElem?_eq_some_iff.1 hc).1
 have hsz:=hbx.size;have hnl:=(Array.getElem?_eq_some_iff.1 hn1).1;have hg8:g8=gg∨g8=v.heap.size:=by
  rcases hat with e | e
  · exact Or.inl (Option.some.inj e).symm
  · exact Or.inr e
 have hne:∀ b,b≠gg->some b≠some gg:=fun b hb e=>hb (Option.some.inj e);refine⟨fun i=>if i<L then B i else wo.heap.size,fun i hi=>?_,fun i k hk hi=>?_⟩
 ·
  by_cases e:i<L
  ·
   obtain⟨e1,e2,e3,c,hc,hs⟩:=h1 i e;have:=hlt i e;simp only [if_pos e]
   exact⟨e1,e2,by omega,c,rowR (rowL hc hbx) hgr (hne _ e3),hs⟩
  ·
   simp only [if_neg e]
   exact⟨trivial,hlo,by omega,cur,rowR hn1 hgr (hne _ (by omega)),hn2⟩
 ·
  simp only
  by_cases e:i<L
  · rw [if_pos e,if_pos (by omega)];exact h2 i k hk e
  · rw [if_neg e,if_pos (by omega)];exact hlt k (by omega)
def Apt(lo:Nat)(w:World)(a:Option Addr)(A:List Rw):Prop:=A.length=0∨∃ (gg:Nat) (cur:Array Value) (B C:Nat->Nat),a=some ⟨gg,0,none⟩/\lo<=gg/\w.heap[gg]?=some (.cells cur 41 (0,0))/\(∀ i,i<A.length->cur[i]?=some (.slice (some ⟨B i,0,none⟩) (A.getD i r0).1 (C i)))/\(∀ i,i<A.length->WR w lo w.heap.size 66 3 (some ⟨B i,0,none⟩) (A.getD i r0).1)/\(∀ i,i<A.length->B i≠gg)/\∀ i k,k<i->i<A.length->B k<B i
theorem WR.wide{w w':World}{lo lo' hi hi':Nat}{t:TypeId}{z:Nat}{a:Option Addr}{n:Nat}(h:WR w lo hi t z a n)(hb:Below w.heap.size w w')(h1:lo'<=lo)(h2:hi<=hi'):WR w' lo' hi' t z a n:=by
 rcases h with h | ⟨g,cur,e1,e2,e3,e4,e5⟩
 · exact Or.inl h
 · exact Or.inr ⟨g,cur,e1,by omega,by omega,rowL e4 hb,e5⟩
theorem Apt.later{lo lo':Nat}{w w':World}{a:Option Addr}{A:List Rw}(h:Apt lo w a A)(hb:Below w.heap.size w w')(h1:lo'<=lo):Apt lo' w' a A:=by
 rcases h with h | ⟨gg,cur,B,C,e1,e2,e3,e4,e5,e6,e7⟩
 · exact Or.inl h
 · exact Or.inr ⟨gg,cur,B,C,e1,by omega,rowL e3 hb,e4,fun i hi=>(e5 i hi).wide hb h1 hb.size,e6,e7⟩
theorem okTd_good{d:Td}(h:okTd d=true):∀ k,k<d.r->goodR d.n d.C (d.R k):=fun k hk j hj=>by
 obtain⟨-,-,-,-,h5,h6⟩:=okTd_out h;have h1:=h6 k hk;have h2:=(okTd_nice h).txt k hk j hj;unfold okRowAt at h1;simp only [Bool.and_eq_true,decide_eq_true_eq] at h1
 have h3:=allN_at h1.1.2 (j:=j) (by omega);have h4:=allN_at h5 hj;simp only [rightB,Bool.and_eq_true,beq_iff_eq] at h3
 simp only [okColAt,Bool.and_eq_true] at h4
 have h7:=h4.1.2;simp only [isTyp,Bool.or_eq_true,beq_iff_eq] at h7
 refine⟨h2,?_,h3.1⟩;unfold goodV;rcases h7 with e | e
 ·
  left
  rw [e] at h3;simp only [if_true,decide_eq_true_eq] at h3
  exact⟨h3.1,by
   have:=h3.2;rcases hs:(d.R k j).s with ⟨⟨L⟩⟩
   rw [hs] at this;cases L
   · rfl
   · simp [ByteArray.size] at this⟩
 ·
  right
  rw [e] at h3;simp at h3
  exact⟨h3.1,h3.2.1⟩
set_option maxRecDepth 20000
set_option maxHeartbeats 1000000
theorem size1(b:UInt8)(x:ByteArray):((⟨#[b]⟩:ByteArray) ++ x).size=x.size+1:=by
 have:(⟨#[b]⟩:ByteArray).size=1:=rfl;rw [ByteArray.size_append];omega
def dgs:Nat->Nat->ByteArray->ByteArray
 | 0,_,acc=>acc
 | f+1,i,acc=>if i=0 then acc else dgs f (i / 10) (⟨#[UInt8.ofNat (48+i % 10)]⟩ ++ acc)
theorem dgs_zero(f:Nat)(acc:ByteArray):dgs f 0 acc=acc:=by cases f <;> simp [dgs]
theorem dgs_more(f i:Nat)(acc:ByteArray)(h:i<10 ^ f):dgs (f+1) i acc=dgs f i acc:=by
 induction f generalizing i acc with
 | zero=>
  have:i=0:=by simpa using h
  subst this;simp [dgs]
 | succ f ih=>
  by_cases hi:i=0
  · subst hi;simp [dgs]
  ·
   have h':i / 10<10 ^ f:=by rw [Nat.pow_succ] at h;omega
   have e1:dgs (f+1+1) i acc=dgs (f+1) (i / 10) (⟨#[UInt8.ofNat (48+i % 10)]⟩ ++ acc):=by simp [dgs,hi]
   have e2:dgs (f+1) i acc=dgs f (i / 10) (⟨#[UInt8.ofNat (48+i % 10)]⟩ ++ acc):=by simp [dgs,hi]
   rw [e1,e2,ih _ _ h']
def mtx(i:Nat):ByteArray:=⟨#[109]⟩ ++ dgs 20 i ⟨#[]⟩
theorem dgs_step(i:Nat)(acc:ByteArray)(h0:0<i)(h:i<9200000000000000000):dgs 20 i acc=dgs 20 (i / 10) (⟨#[UInt8.ofNat (48+i % 10)]⟩ ++ acc):=by
 have e:dgs 20 i acc=dgs 19 (i / 10) (⟨#[UInt8.ofNat (48+i % 10)]⟩ ++ acc):=by
  rw [dgs,if_neg (by omega)]
 rw [e,dgs_more 19 _ _ (by omega)]
theorem conv1(w:World)(x:Int)(hx:48<=x)(hx2:x<=57) :
 (convert 180 9 (.slice (some ⟨w.heap.size,0,none⟩) 1 1)).run Tryz.prog (w.alloc (.cells #[.int .u8 x] 5))=.ok (.string ⟨#[UInt8.ofNat x.toNat]⟩) (w.alloc (.cells #[.int .u8 x] 5)):=by
 refine run_convert_bytes_back _ 180 9 5 ⟨w.heap.size,0,none⟩ _ [UInt8.ofNat x.toNat] Tryz.underlying180 Tryz.underlying5 Tryz.underlying9 ?_;intro j hj;obtain rfl:j=0:=by simpa using hj
 have hadd:(⟨w.heap.size,0,none⟩:Addr).add 0=⟨w.heap.size,0,none⟩:=rfl;rw [hadd,cell_of_row _ _ 0 _ 5 _ (heap_alloc_new w _)];have:((UInt8.ofNat x.toNat).toNat:Int)=x:=by simp;omega
 have e2:(List.toArray [Value.int .u8 x])[0]?=some (.int .u8 x):=rfl;simp only [List.length_cons,List.length_nil] at hj
 show some (Value.int .u8 x)=some (Value.int .u8 ((UInt8.ofNat x.toNat).toNat:Int))
 rw [this]
theorem markText_any(i:Nat)(w:World)(h0:0<i)(h1:i<9200000000000000000)(y:ByteArray)(hy:mtx i=y) :
 Calls Tryz.prog 96 #[.int .i64 i] w fun e w'=>e=.returned (.string y)/\Below w.heap.size w w':=by
 have HY:Hid (mtx i=y):=hy;clear hy;have hd0:decide (i=0)=false:=by simpa using (by omega:¬i=0)
 go_enter Tryz.func96,Tryz.ntmps96
 go_wp2;go_loopw [0,3] (fun x s wr=>∃ (j:Nat) (acc:ByteArray),acc.size+j<=9200000000000000000/\j<9200000000000000000/\x=.int .i64 j/\s=.string acc/\dgs 20 j acc=dgs 20 i ⟨#[]⟩/\Below w.heap.size w wr) (fun x _ _=>(intOf x).toNat)
 case atStart=>exact⟨i,⟨#[]⟩,(show 0+i<=9200000000000000000 by omega),h1,rfl,rfl,rfl,Below.refl _ _⟩
 case round=>
  obtain⟨j,acc,hsz,hj,rfl,rfl,hd,hb⟩:=hrel;have HD:Hid (dgs 20 j acc=dgs 20 i ⟨#[]⟩):=hd;clear hd;by_cases hlt:0<j
  ·
   have HS:Hid (dgs 20 j acc=dgs 20 (j / 10) (⟨#[UInt8.ofNat (48+j % 10)]⟩ ++ acc)):=dgs_step j acc hlt hj;have hx1:(48:Int)<=48+(j:Int) % 10:=by omega
   have hx2:48+(j:Int) % 10<=57:=by omega
   have hcv:=conv1 wr (48+(j:Int) % 10) hx1 hx2;have e:(48+(j:Int) % 10).toNat=48+j % 10:=by omega
   rw [e] at hcv;have hw8:IntKind.u8.wrap (48+(j:Int) % 10)=48+(j:Int) % 10:=by rw [IntKind.wrap_u8'];omega
   clear e;obtain⟨c8,hc8⟩:∃ c,UInt8.ofNat (48+j % 10)=c:=⟨_,rfl⟩;rw [hc8] at hcv HS;clear hc8;go_wp2;go_roundw
   case rel=>exact⟨j / 10,_,by have:=size1 c8 acc;omega,by omega,by go_num,rfl,by rw [←HS.out];exact HD.out,hb.alloc hb.size _⟩
   case measure=>simp [intOf];omega
  ·
   obtain rfl:j=0:=by omega
   have HE:Hid (⟨#[109]⟩ ++ acc=y):=by show ⟨#[109]⟩ ++ acc=y;rw [←HY.out];unfold mtx;rw [←HD.out,dgs_zero]
   go_wp2;go_ret
   exact⟨by rw [←HE.out];rfl,hb⟩
theorem markText_as(i:Nat)(w:World)(z:Int)(hz:z=i)(h0:0<i)(h1:i<9200000000000000000)(y:ByteArray)(hy:mtx i=y) :
 Calls Tryz.prog 96 #[.int .i64 z] w fun e w'=>e=.returned (.string y)/\Below w.heap.size w w':=by
 subst hz;exact markText_any i w h0 h1 y hy
theorem rowG'{w w':World}{q:Nat}{r:Option Nat}{o:Obj}(h:w.heap[q]?=some o)(hg:w.grownBy w' r)(hne:some q≠r):w'.heap[q]?=some o:=(hg.block q (Array.getElem?_eq_some_iff.1 h).1 hne).trans h
end Go.Proofs.YtgeiamgeclbiaaaGreatDoor
