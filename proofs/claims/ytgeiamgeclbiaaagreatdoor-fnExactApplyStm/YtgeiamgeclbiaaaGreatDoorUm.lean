import Derived.Test.YtgeiamgeclbiaaaGreatDoorUk
namespace Go.Proofs.YtgeiamgeclbiaaaGreatDoor
open Go.RowKit Go.Maps Go.WideMaps
set_option maxRecDepth 20000
set_option maxHeartbeats 16000000
def r0:Rw:=(0,fun _=>d0)
def dlS(C:Nat->Clm)(n:Nat)(m:Nat->Nat)(R:Nat->Nat->Itm)(W:Nat->Itm)(n6:Nat):Nat->List Rw
 | 0=>[]
 | k+1=>dlS C n m R W n6 k ++ opt (!fitB C n (R k) W n6) (m k,R k)
theorem dlS_mem{C:Nat->Clm}{n:Nat}{m:Nat->Nat}{R:Nat->Nat->Itm}{W:Nat->Itm}{n6:Nat}{P:Rw->Prop}:∀ {k:Nat},(∀ j,j<k->P (m j,R j))->∀ x∈dlS C n m R W n6 k,P x
 | 0,_,x,hx=>by cases hx
 | k+1,h,x,hx=>by
  simp only [dlS,List.mem_append] at hx
  rcases hx with hx | hx
  · exact dlS_mem (fun j hj=>h j (by omega)) x hx
  · rw [opt_mem hx];exact h k (by omega)
theorem dlS_len{C:Nat->Clm}{n:Nat}{m:Nat->Nat}{R:Nat->Nat->Itm}{W:Nat->Itm}{n6:Nat}:∀ {k:Nat},(dlS C n m R W n6 k).length<=k
 | 0=>by simp [dlS]
 | k+1=>by
  have ih:=dlS_len (C:=C) (n:=n) (m:=m) (R:=R) (W:=W) (n6:=n6) (k:=k);simp only [dlS,List.length_append,opt_len]
  split <;> omega
def tabR(ds:ByteArray)(dn:Nat)(dC:Nat->Clm)(A:List Rw):Td:=⟨ds,dn,dC,A.length,fun i=>(A.getD i r0).1,fun i=>(A.getD i r0).2⟩
def dlA(T:Nat->Td)(n:Nat)(ds:ByteArray)(dn:Nat)(dC:Nat->Clm)(dr:Nat)(dm:Nat->Nat)(dR:Nat->Nat->Itm)(W:Nat->Itm)(n6:Nat):List Td×Int:=
 if cwR dC dn W n6=0 then (wtL T (tabR ds dn dC (dlS dC dn dm dR W n6 dr)) n,0) else (tlL T n,cwR dC dn W n6)
structure Nice(dn dr:Nat)(dm:Nat->Nat)(dR:Nat->Nat->Itm):Prop where
 n0:0<dn
 n1:dn<=1048576
 r1:dr<=1000000
 len:∀ k,k<dr->dm k=dn
 txt:∀ k,k<dr->∀ j,j<dn->(dR k j).s.size<=200
theorem ER.of{w:World}{ar:Option Addr}{dr:Nat}{dm:Nat->Nat}{dR:Nat->Nat->Itm}(h:OL w ar dr dm dR){k:Nat}(hk:k<dr):∃ b off i c,ar=some ⟨b,off,none⟩/\w.cell? ⟨b,off+k,none⟩=some (.slice i (dm k) c)/\Liv (fun b=>b<w.heap.size) w (ER [.slice i (dm k) c] (dm k,dR k))/\IL w i (dm k) (dR k):=by
 obtain⟨b,off,i,c,e,c0,hI,hs⟩:=h k hk;exact⟨b,off,i,c,e,c0,hI.lb.imp (fun _ h=>⟨_,_,rfl,h,hs⟩),hI⟩
theorem getD_mem{α:Type}{A:List α}{i:Nat}{y:α}(h:i<A.length):A.getD i y∈A:=by
 have e:A.getD i y=A[i]:=by simp [h]
 rw [e];exact List.getElem_mem h
theorem sDelete(a:Option Addr)(n c:Nat)(T:Nat->Td)(ds:ByteArray)(dn:Nat)(dC:Nat->Clm)(dr:Nat)(dm:Nat->Nat)(dR:Nat->Nat->Itm)(ac:Option Addr)(cc:Nat)(ar:Option Addr)(cr:Nat)(k0:Int)(tb:ByteArray)(a2:Option Addr)(n2 c2:Nat)(a3:Option Addr)(n3 c3:Nat)(col:ByteArray)(a5:Option Addr)(n5 c5:Nat)(a6:Option Addr)(n6 c6:Nat)(a7:Option Addr)(n7 c7:Nat)(W:Nat->Itm)(w:World)(h:TL w a n T)(hC:CL w ac dn dC)(hR:OL w ar dr dm dR)(hW:IL w a6 n6 W)(hn:n<=1000000)(hF:Fil n T)(hN:Nice dn dr dm dR)(hds:ds.size<=1048576)(hok:okWhere W n6=true) :
 Calls Tryz.prog 56 #[.agg #[.slice a n c],.agg #[.string ds,.slice ac dn cc,.slice ar dr cr],.agg #[.int .i64 k0,.string tb,.slice a2 n2 c2,.slice a3 n3 c3,.string col,.slice a5 n5 c5,.slice a6 n6 c6,.slice a7 n7 c7]] w (Ans w (dlA T n ds dn dC dr dm dR W n6).1 (dlA T n ds dn dC dr dm dR W n6).2):=by
 have HF:Hid (Fil n T):=hF;have HN:Hid (Nice dn dr dm dR):=hN;have HOK:Hid (okWhere W n6=true):=hok;have hn1:=hN.n1;have hr1:=hN.r1;clear hF hN hok;obtain⟨jr,hir,hzr0,hzr1,hzr2⟩:=info_parts Tryz.infoRow;have HIr:Hid (Tryz.prog.info? 41=some jr):=hir;clear hir;have hbU:Below w.heap.size w ((((w.alloc (.cells #[.slice a n c] 38)).alloc (.cells #[.string ds,.slice ac dn cc,.slice ar dr cr] 62)).alloc (.cells #[.int .i64 k0,.string tb,.slice a2 n2 c2,.slice a3 n3 c3,.string col,.slice a5 n5 c5,.slice a6 n6 c6,.slice a7 n7 c7] 45)).alloc (.cells #[.slice none 0 0] 38)):=bstep (below3 _ _ _ _) (bal _ _);have hsU:((((w.alloc (.cells #[.slice a n c] 38)).alloc (.cells #[.string ds,.slice ac dn cc,.slice ar dr cr] 62)).alloc (.cells #[.int .i64 k0,.string tb,.slice a2 n2 c2,.slice a3 n3 c3,.string col,.slice a5 n5 c5,.slice a6 n6 c6,.slice a7 n7 c7] 45)).alloc (.cells #[.slice none 0 0] 38)).heap.size=w.heap.size+4:=by rw [World.size_alloc,World.size_alloc,World.size_alloc,World.size_alloc]
 have hq0:((((w.alloc (.cells #[.slice a n c] 38)).alloc (.cells #[.string ds,.slice ac dn cc,.slice ar dr cr] 62)).alloc (.cells #[.int .i64 k0,.string tb,.slice a2 n2 c2,.slice a3 n3 c3,.string col,.slice a5 n5 c5,.slice a6 n6 c6,.slice a7 n7 c7] 45)).alloc (.cells #[.slice none 0 0] 38)).heap[w.heap.size]?=some (.cells #[.slice a n c] 38 (0,0)):=rowL (rowL (rowL (heap_alloc_new w _) (bal _ _)) (bal _ _)) (bal _ _);have hq1:((((w.alloc (.cells #[.slice a n c] 38)).alloc (.cells #[.string ds,.slice ac dn cc,.slice ar dr cr] 62)).alloc (.cells #[.int .i64 k0,.string tb,.slice a2 n2 c2,.slice a3 n3 c3,.string col,.slice a5 n5 c5,.slice a6 n6 c6,.slice a7 n7 c7] 45)).alloc (.cells #[.slice none 0 0] 38)).heap[w.heap.size+1]?=some (.cells #[.string ds,.slice ac dn cc,.slice ar dr cr] 62 (0,0)):=by
  have q:=heap_alloc_new (w.alloc (.cells #[.slice a n c] 38)) (.cells #[.string ds,.slice ac dn cc,.slice ar dr cr] 62);rw [World.size_alloc] at q;exact rowL (rowL q (bal _ _)) (bal _ _)
 have hq2:((((w.alloc (.cells #[.slice a n c] 38)).alloc (.cells #[.string ds,.slice ac dn cc,.slice ar dr cr] 62)).alloc (.cells #[.int .i64 k0,.string tb,.slice a2 n2 c2,.slice a3 n3 c3,.string col,.slice a5 n5 c5,.slice a6 n6 c6,.slice a7 n7 c7] 45)).alloc (.cells #[.slice none 0 0] 38)).heap[w.heap.size+1+1]?=some (.cells #[.int .i64 k0,.string tb,.slice a2 n2 c2,.slice a3 n3 c3,.string col,.slice a5 n5 c5,.slice a6 n6 c6,.slice a7 n7 c7] 45 (0,0)):=by
  have q:=heap_alloc_new ((w.alloc (.cells #[.slice a n c] 38)).alloc (.cells #[.string ds,.slice ac dn cc,.slice ar dr cr] 62)) (.cells #[.int .i64 k0,.string tb,.slice a2 n2 c2,.slice a3 n3 c3,.string col,.slice a5 n5 c5,.slice a6 n6 c6,.slice a7 n7 c7] 45);rw [World.size_alloc,World.size_alloc] at q;exact rowL q (bal _ _)
 have hq3:((((w.alloc (.cells #[.slice a n c] 38)).alloc (.cells #[.string ds,.slice ac dn cc,.slice ar dr cr] 62)).alloc (.cells #[.int .i64 k0,.string tb,.slice a2 n2 c2,.slice a3 n3 c3,.string col,.slice a5 n5 c5,.slice a6 n6 c6,.slice a7 n7 c7] 45)).alloc (.cells #[.slice none 0 0] 38)).heap[w.heap.size+1+1+1]?=some (.cells #[.slice none 0 0] 38 (0,0)):=by
  have q:=heap_alloc_new (((w.alloc (.cells #[.slice a n c] 38)).alloc (.cells #[.string ds,.slice ac dn cc,.slice ar dr cr] 62)).alloc (.cells #[.int .i64 k0,.string tb,.slice a2 n2 c2,.slice a3 n3 c3,.string col,.slice a5 n5 c5,.slice a6 n6 c6,.slice a7 n7 c7] 45)) (.cells #[.slice none 0 0] 38);rw [World.size_alloc,World.size_alloc,World.size_alloc] at q;exact q
 obtain⟨cd,hcd⟩:∃ cd,cwR dC dn W n6=cd:=⟨_,rfl⟩;have HCW:=sCheckW ac dn cc dC a6 n6 c6 W ((((w.alloc (.cells #[.slice a n c] 38)).alloc (.cells #[.string ds,.slice ac dn cc,.slice ar dr cr] 62)).alloc (.cells #[.int .i64 k0,.string tb,.slice a2 n2 c2,.slice a3 n3 c3,.string col,.slice a5 n5 c5,.slice a6 n6 c6,.slice a7 n7 c7] 45)).alloc (.cells #[.slice none 0 0] 38)) (hC.later hbU) (hW.later hbU) hn1 HOK.out;rw [hcd] at HCW;have HCD:Hid (cwR dC dn W n6=cd):=hcd;clear hcd;obtain⟨p0,-⟩:=box1 hq0;obtain⟨p1,p2,p3,-⟩:=box3 hq1;obtain⟨-,-,-,-,-,-,p6,-⟩:=box8 hq2;by_cases h0:cd=0
 rotate_left
 ·
  have n0:(cd != 0)=true:=by simpa using h0
  have HA:Hid (dlA T n ds dn dC dr dm dR W n6=(tlL T n,cd)):=by show _=_;unfold dlA;rw [HCD.out,if_neg h0]
  clear h0;go_enter Tryz.func56,Tryz.ntmps56
  go_wp2_with (first | (go_at_call 58;refine HCW.mono ?_;rintro e w1 ⟨rfl,hb1⟩;have r0:=rowL hq0 hb1;have r3:=rowL hq3 hb1;obtain⟨m0,-⟩:=box1 r0) | (go_at_call 53;refine(sSame a n c T _ (h.later (bstep hbU hb1)) (by omega) HF.out).mono ?_;rintro e w2 ⟨a8,c8,rfl,hL8,hb8⟩;have s2:=rowL r3 hb8;obtain⟨m2,f2⟩:=box1 s2))
  refine bodyPost_ret (results_cell_tmp Tryz.results56 _ _ (w.heap.size+1+1+1) 38 _ (0,0) _ rfl (row1 s2 _) Tryz.underlying38 rfl (by kernel_rfl)) rfl ?_;rw [HA.out];exact ans_same (bstep hbU hb1) hL8 hb8 (by omega) (by have:=hb1.size;omega) _
 subst h0;go_enter Tryz.func56,Tryz.ntmps56
 go_wp2_with (first | (go_at_call 58;refine HCW.mono ?_;rintro e w1 ⟨rfl,hb1⟩;have r0:=rowL hq0 hb1;have r1:=rowL hq1 hb1;have r2:=rowL hq2 hb1;have r3:=rowL hq3 hb1;obtain⟨m1,m2,m3,-⟩:=box3 (rowL r1 (bal w1 (.cells #[] 41)))))
 have hb10:=bstep hbU hb1;have hs1:=hb1.size;have hO0:(w1.alloc (.cells #[] 41)).ownsRow w1.heap.size 41 1 (.slice (some ⟨w1.heap.size,0,none⟩) 0 0) 0 []:=World.ownsRow_made w1 #[] 0 (Nat.le_refl _) (by unfold maxLen;omega) rfl;go_loopw [9,11,26] (fun v _ i wr=>∃ (k:Nat) (A:List Rw) (g cap:Nat) (f:Nat->List Value),k<=dr/\i=.int .i64 k/\v=.slice (some ⟨g,0,none⟩) A.length cap/\dlS dC dn dm dR W n6 k=A/\RO w1.heap.size (fun b=>b<w.heap.size) wr (.slice (some ⟨g,0,none⟩) A.length cap) A.length (fun i=>A.getD i _root_.Go.Proofs.YtgeiamgeclbiaaaGreatDoor.r0) f/\Below w1.heap.size w1 wr) (fun _ _ i _=>dr - (intOf i).toNat)
 case atStart=>exact⟨0,[],w1.heap.size,0,fun _=>[],by omega,rfl,rfl,rfl,GO.nil hO0,bal _ _⟩
 case round=>
  obtain⟨k,A,g,cap,f,hk,rfl,rfl,hdl,hRO,hbr⟩:=hrel;have HDL:Hid (dlS dC dn dm dR W n6 k=A):=hdl;have hAl:A.length<=k:=by rw [←hdl];exact dlS_len
  clear hdl;have hbw:=bstep hb10 hbr;have hsr:=hbr.size;have q0:=rowL r0 hbr;have q1:=rowL r1 hbr;have q2:=rowL r2 hbr;have q3:=rowL r3 hbr;obtain⟨u1,u2,u3,uf1,uf2,uf3⟩:=box3 q1;obtain⟨-,-,-,-,-,-,u6,-⟩:=box8 q2;have hgl:=hRO.own.lt g rfl;by_cases hlt:k<dr
  ·
   obtain⟨bR,offR,ai,ci,rfl,d1,hLE,hI⟩:=ER.of hR hlt;have hmk:=HN.out.len k hlt;have d2:=keepB hbw d1;rw [hmk] at d2 hI;have HLE:Hid (∀ W',Below w.heap.size w W'->Liv (fun b=>b<w.heap.size) W' (ER [.slice ai dn ci] (dm k,dR k))):=fun W' hW'=>by
    have:=hLE.later hW';rwa [show Value.slice ai (dm k) ci=.slice ai dn ci from by rw [hmk]] at this
   clear hmk d1 hLE;have hkr:(k:Int)<dr:=by omega
   have HFT:=sFits ac dn cc dC ai ci (dR k) a6 n6 c6 W wr (hC.later hbw) (hI.later hbw) (hW.later hbw) hn1 HOK.out HCD.out (HN.out.txt k hlt);have HST:Hid (dlS dC dn dm dR W n6 (k+1)=A ++ opt (!fitB dC dn (dR k) W n6) (dm k,dR k)):=by show _=_;rw [dlS,HDL.out]
   obtain⟨fb,hfb⟩:∃ fb,fitB dC dn (dR k) W n6=fb:=⟨_,rfl⟩;rw [hfb] at HFT HST;clear hfb;cases fb
   ·
    go_wp2_with (first | (at_builtin;have _h:=hb4;refine wpList_append_lies _ rfl _ _ _ rfl w1.heap.size 41 jr (.slice none 0 0) 1 24 Tryz.underlying33 HIr.out hzr0 hzr1 hzr2 rfl (by omega) (.slice (some ⟨g,0,none⟩) A.length cap) A.length (flt f A.length) rfl (hRO4.later (bal _ _)).own ⟨w4.heap.size,0,none⟩ 1 1 [.slice ai dn ci] rfl rfl (World.news_of_block (heap_alloc_new w4 _)) (ones _ rfl) (by omega) (by unfold maxLen;omega) (by omega) (by have:=hb4.size;simp;omega) _ rfl ?_;intro g8 cap8 w8 hO8 hgr8 hat8 hlt8) | (go_at_call 27;refine HFT.mono ?_;rintro e w4 ⟨rfl,hb4⟩;have hRO4:=hRO.later hb4))
    have hL4:Liv (fun b=>b<w.heap.size/\some b≠(Value.slice (some ⟨g,0,none⟩) A.length cap).ownBlock) w4 (ER [.slice ai dn ci] (dm k,dR k)):=(HLE.out _ (bstep hbw hb4)).wide (fun b hx _=>⟨hx,by show some b≠some g;intro e2;have e3:b=g:=Option.some.inj e2;omega⟩);have hP:=GO.snoc (x:=(dm k,dR k)) (hRO4.later (bal _ _)) (c:=[.slice ai dn ci]) rfl (hL4.later (bal _ _)) hO8 hgr8 hat8;have hb8:=gB (bstep (bstep hbr hb4) (bal _ _)) (r:=g) hgr8 hgl.1;have eA:(A ++ [(dm k,dR k)]).length=A.length+1:=by simp
    go_roundw
    case rel=>exact⟨k+1,A ++ [(dm k,dR k)],g8,cap8,_,by omega,by go_num,by rw [eA],by rw [HST.out];rfl,hP,hb8⟩
    case measure=>simp [intOf];omega
   ·
    go_wp2_with (go_at_call 27;refine HFT.mono ?_;rintro e w4 ⟨rfl,hb4⟩)
    go_roundw
    case rel=>exact⟨k+1,A,g,cap,f,by omega,by go_num,rfl,by rw [HST.out];simp [opt],hRO.later hb4,bstep hbr hb4⟩
    case measure=>simp [intOf];omega
  ·
   obtain rfl:k=dr:=by omega
   have HA:Hid (dlA T n ds dn dC k dm dR W n6=(wtL T (tabR ds dn dC A) n,0)):=by show _=_;unfold dlA;rw [HCD.out,if_pos rfl,HDL.out]
   have HAM:Hid (∀ i,i<A.length->(A.getD i _root_.Go.Proofs.YtgeiamgeclbiaaaGreatDoor.r0).1=dn/\∀ j,j<dn->((A.getD i _root_.Go.Proofs.YtgeiamgeclbiaaaGreatDoor.r0).2 j).s.size<=200):=fun i hi=>by
    have:=getD_mem (y:=_root_.Go.Proofs.YtgeiamgeclbiaaaGreatDoor.r0) hi;rw [←HDL.out] at this ⊢;exact dlS_mem (P:=fun x=>x.1=dn/\∀ j,j<dn->(x.2 j).s.size<=200) (fun j hj=>⟨HN.out.len j hj,HN.out.txt j hj⟩) _ this
   have qY:(wr.setCell ⟨w.heap.size+1,2,none⟩ (.slice (some ⟨g,0,none⟩) A.length cap)).heap[w.heap.size+1]?=some (.cells #[.string ds,.slice ac dn cc,.slice (some ⟨g,0,none⟩) A.length cap] 62 (0,0)):=heap_setCell_same _ _ 2 _ _ _ q1;have hbY:Below w.heap.size w (wr.setCell ⟨w.heap.size+1,2,none⟩ (.slice (some ⟨g,0,none⟩) A.length cap)):=bset hbw (by omega);have hsY:(wr.setCell ⟨w.heap.size+1,2,none⟩ (.slice (some ⟨g,0,none⟩) A.length cap)).heap.size=wr.heap.size:=World.size_setCell _ _ _;obtain⟨y1,y2,y3,-⟩:=box3 qY;obtain⟨y0,-⟩:=box1 (rowO (i:=2) (v:=.slice (some ⟨g,0,none⟩) A.length cap) q0 (show w.heap.size≠w.heap.size+1 by omega));have q3Y:=rowO (B:=w.heap.size+1) (i:=2) (v:=.slice (some ⟨g,0,none⟩) A.length cap) q3 (by omega);obtain⟨aO,cO,eO,hOL⟩:=RO.ol (hRO.set (B:=w.heap.size+1) (i:=2) (u:=.slice (some ⟨g,0,none⟩) A.length cap) (by omega) (by omega));obtain⟨rfl,rfl⟩:some ⟨g,0,none⟩=aO/\cap=cO:=by simpa using eO
   have HSM:Hid (Sm3 (tabR ds dn dC A)):=⟨hds,⟨hn1,fun j hj=>by obtain⟨_,_,_,_,_,hz⟩:=hC j hj;exact hz⟩,⟨by show A.length<=_;omega,fun j hj=>⟨by show (A.getD j _).1<=_;rw [(HAM.out j hj).1];exact hn1,fun q hq=>by
    have e1:=HAM.out j hj;have e2:q<dn:=by rw [←e1.1];exact hq
    have:=e1.2 q e2;show ((A.getD j _).2 q).s.size<=_
    omega⟩⟩⟩
   have HNN:Hid (0<(tabR ds dn dC A).n/\∀ i,i<(tabR ds dn dC A).r->0<(tabR ds dn dC A).m i):=⟨HN.out.n0,fun i hi=>by show 0<(A.getD i _).1;rw [(HAM.out i hi).1];exact HN.out.n0⟩;go_wp2_with (first | (go_at_call 103;refine(sWith_as a n c T ds dn dC A.length (fun i=>(A.getD i _root_.Go.Proofs.YtgeiamgeclbiaaaGreatDoor.r0).1) (fun i=>(A.getD i _root_.Go.Proofs.YtgeiamgeclbiaaaGreatDoor.r0).2) ac cc (some ⟨g,0,none⟩) cap (tabR ds dn dC A) rfl _ (h.later hbY) (hC.later hbY) hOL HSM.out hn HF.out HNN.out).mono ?_;rintro e w2 ⟨a8,c8,rfl,hL8,hb8⟩;have s2:=rowL q3Y hb8;obtain⟨z2,f2⟩:=box1 s2))
   refine bodyPost_ret (results_cell_tmp Tryz.results56 _ _ (w.heap.size+1+1+1) 38 _ (0,0) _ rfl (row1 s2 _) Tryz.underlying38 rfl (by kernel_rfl)) rfl ?_;rw [HA.out];exact ans_with hbY hL8 hb8 (by omega) (by omega) 0
def putN(R:Nat->Nat->Itm)(m:Int)(s:ByteArray):Nat->Nat
 | 0=>0
 | r+1=>if putN R m s r=r/\cmpV (R r 0).m (R r 0).s m s<0 then r+1 else putN R m s r
theorem putN_le{R:Nat->Nat->Itm}{m:Int}{s:ByteArray}:∀ {r:Nat},putN R m s r<=r
 | 0=>Nat.le_refl _
 | r+1=>by
  rw [putN];have:=putN_le (R:=R) (m:=m) (s:=s) (r:=r);split <;> omega
theorem putN_stop{R:Nat->Nat->Itm}{m:Int}{s:ByteArray}{k:Nat}(h1:putN R m s k=k)(h2:¬cmpV (R k 0).m (R k 0).s m s<0):∀ r,k<r->putN R m s r=k:=by
 intro r hr;induction r with
 | zero=>omega
 | succ r ih=>
  rw [putN];by_cases e:k=r
  · subst e;rw [if_neg (fun h=>h2 h.2),h1]
  · have:=ih (by omega);rw [this,if_neg (fun h=>e h.1)]
theorem OL.cells{w:World}{ad:Addr}{n:Nat}{m:Nat->Nat}{O:Nat->Nat->Itm}(h:OL w (some ad) n m O):∃ q:Nat->List Value,(∀ k,k<n->(q k).length=1)/\(∀ k,k<n->∀ u∈q k,u.oneCell'=true)/\(∀ k,k<n->∀ u,(q k)[0]?=some u->w.cell? ⟨ad.block,ad.off+k,none⟩=some u)/\∀ k,k<n->Liv (fun b=>b<w.heap.size) w (ER (q k) (m k,O k)):=by
 have key:∀ k,∃ v:Value,k<n->(v.oneCell'=true/\w.cell? ⟨ad.block,ad.off+k,none⟩=some v/\Liv (fun b=>b<w.heap.size) w (ER [v] (m k,O k))):=fun k=>by
  by_cases hk:k<n
  · obtain⟨b,off,i,c,e,c0,hI,hs⟩:=h k hk;obtain rfl:ad=⟨b,off,none⟩:=Option.some.inj e;exact⟨.slice i (m k) c,fun _=>⟨rfl,c0,hI.lb.imp (fun _ h=>⟨_,_,rfl,h,hs⟩)⟩⟩
  · exact⟨.bool false,fun h=>absurd h hk⟩
 refine⟨fun k=>[(key k).choose],fun k _=>rfl,fun k hk u hu=>?_,fun k hk u hu=>?_,fun k hk=>((key k).choose_spec hk).2.2⟩
 ·
  simp only [List.mem_cons,List.not_mem_nil,or_false] at hu
  rw [hu];exact((key k).choose_spec hk).1
 · obtain rfl:(key k).choose=u:=Option.some.inj hu;exact((key k).choose_spec hk).2.1
theorem GO.app{α:Type}{T sz G:Nat}{D:Nat->Prop}{E:List Value->α->World->Prop}{w w':World}{v:Value}{n k g' cap':Nat}{x:Nat->α}{f c:Nat->List Value}(h:GO T sz G D E w v n x f)(hc:∀ i,i<k->(c i).length=sz)(hl:∀ i,i<k->Liv (fun b=>D b/\some b≠v.ownBlock) w (E (c i) (x (n+i))))
 (hO:w'.ownsRow G T sz (.slice (some ⟨g',0,none⟩) (n+k) cap') (n+k) (flt f n ++ flt c k)) (hgr:w.grownBy w' v.ownBlock) (hDG:∀ b,D b->b<G) :
 GO T sz G D E w' (.slice (some ⟨g',0,none⟩) (n+k) cap') (n+k) x (fun i=>if i<n then f i else c (i - n)):=by
 have key:∀ {P:World->Prop},Liv (fun b=>D b/\some b≠v.ownBlock) w P->Liv (fun b=>D b/\some b≠(Value.slice (some ⟨g',0,none⟩) (n+k) cap').ownBlock) w' P:=fun hp=>by
  have h2:=hp.grown hgr (fun b hb=>hb.2);refine h2.wide (fun b hb _=>⟨hb.1,?_⟩);show some b≠some g'
  intro e2;have e3:b=g':=Option.some.inj e2;have h3:=(hO.lt g' rfl).1;have h4:=hDG b hb.1;omega
 have ef:∀ j,j<=k->flt (fun i=>if i<n then f i else c (i - n)) (n+j)=flt f n ++ flt c j:=by
  intro j;induction j with
  | zero=>
   intro _;rw [Nat.add_zero,flt_zero,List.append_nil];exact flt_congr (fun q hq=>by simp [hq])
  | succ j ih=>
   intro hj;rw [←Nat.add_assoc,flt_succ,ih (by omega),flt_succ,if_neg (by omega),List.append_assoc];congr 2
   rw [show n+j - n=j from by omega]
 refine⟨?_,fun i hi=>?_,fun i hi=>?_⟩
 · rw [ef k (Nat.le_refl _)];exact hO
 ·
  show (if i<n then f i else c (i - n)).length=sz
  split
  · rename_i h1;exact h.len i h1
  · exact hc _ (by omega)
 ·
  show Liv _ _ (E (if i<n then f i else c (i - n)) (x i))
  split
  · rename_i h1;exact key (h.liv i h1)
  · have:=key (hl (i - n) (by omega));rwa [show n+(i - n)=i from by omega] at this
def putL(dm:Nat->Nat)(dR:Nat->Nat->Itm)(x:Rw)(k:Nat):Nat->Rw:=fun i=>if i<k then (dm i,dR i) else if i=k then x else (dm (i - 1),dR (i - 1))
end Go.Proofs.YtgeiamgeclbiaaaGreatDoor
