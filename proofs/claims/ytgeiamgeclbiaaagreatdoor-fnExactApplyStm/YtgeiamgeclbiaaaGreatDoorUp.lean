import Derived.Test.YtgeiamgeclbiaaaGreatDoorUn
namespace Go.Proofs.YtgeiamgeclbiaaaGreatDoor
open Go.RowKit Go.Maps Go.WideMaps
set_option maxRecDepth 20000
set_option maxHeartbeats 16000000
def inT(ds:ByteArray)(dn:Nat)(dC:Nat->Clm)(dr:Nat)(dm:Nat->Nat)(dR:Nat->Nat->Itm)(n3:Nat)(V:Nat->Itm)(p:Nat):Td:=⟨ds,dn,dC,dr+1,fun i=>(putL dm dR (n3,V) p i).1,fun i=>(putL dm dR (n3,V) p i).2⟩
def inA(T:Nat->Td)(n:Nat)(ds:ByteArray)(dn:Nat)(dC:Nat->Clm)(dr:Nat)(dm:Nat->Nat)(dR:Nat->Nat->Itm)(n3:Nat)(V:Nat->Itm):List Td×Int:=
 if typesB n3 dn V dC=false then (tlL T n,4) else if putN dR (V 0).m (V 0).s dr<dr/\cmpV (dR (putN dR (V 0).m (V 0).s dr) 0).m (dR (putN dR (V 0).m (V 0).s dr) 0).s (V 0).m (V 0).s=0 then (tlL T n,5) else if dr=1000 then (tlL T n,6) else (wtL T (inT ds dn dC dr dm dR n3 V (putN dR (V 0).m (V 0).s dr)) n,0)
theorem types_no{n n' j:Nat}{V:Nat->Itm}{C:Nat->Clm}(hj:j<n)(h:¬(V j).o=(C j).t):typesB n n' V C=false:=by
 have:allN n (fun j=>(V j).o == (C j).t)=false:=allN_false hj (by simpa using h);unfold typesB;rw [this,Bool.and_false]
theorem types_yes{n:Nat}{V:Nat->Itm}{C:Nat->Clm}(h:∀ j,j<n->(V j).o=(C j).t):typesB n n V C=true:=by
 have:allN n (fun j=>(V j).o == (C j).t)=true:=allN_true (fun j hj=>by simpa using h j hj);unfold typesB;rw [this];simp
theorem putL_mem{dm:Nat->Nat}{dR:Nat->Nat->Itm}{x:Rw}{dr p:Nat}{P:Rw->Prop}(hp:p<=dr)(h:∀ k,k<dr->P (dm k,dR k))(hx:P x):∀ i,i<dr+1->P (putL dm dR x p i):=fun i hi=>by
 unfold putL;split
 · exact h i (by omega)
 ·
  split
  · exact hx
  · exact h (i - 1) (by omega)
theorem PutA.yes{bR offR dr cr:Nat}{dm:Nat->Nat}{dR:Nat->Nat->Itm}{n3:Nat}{V:Nat->Itm}{w0 w:World}{p:Nat}{e:Ending}{w':World}(h:PutA bR offR dr cr dm dR n3 V w0 w p e w')(hh:p<dr/\cmpV (dR p 0).m (dR p 0).s (V 0).m (V 0).s=0):e=.returned (.tuple #[.slice (some ⟨bR,offR,none⟩) dr cr,.bool false])/\Below w.heap.size w w':=by
 obtain⟨hb,⟨-,-,e⟩ | ⟨hno,-⟩⟩:=h
 · exact⟨e,hb⟩
 · exact absurd hh hno
theorem PutA.no{bR offR dr cr:Nat}{dm:Nat->Nat}{dR:Nat->Nat->Itm}{n3:Nat}{V:Nat->Itm}{w0 w:World}{p:Nat}{e:Ending}{w':World}(h:PutA bR offR dr cr dm dR n3 V w0 w p e w')(hh:¬(p<dr/\cmpV (dR p 0).m (dR p 0).s (V 0).m (V 0).s=0)):∃ g cap f,e=.returned (.tuple #[.slice (some ⟨g,0,none⟩) (dr+1) cap,.bool true])/\RO w.heap.size (fun b=>b<w0.heap.size) w' (.slice (some ⟨g,0,none⟩) (dr+1) cap) (dr+1) (putL dm dR (n3,V) p) f/\Below w.heap.size w w':=by
 obtain⟨hb,⟨h1,h2,-⟩ | ⟨-,g,cap,f,e,hR⟩⟩:=h
 · exact absurd ⟨h1,h2⟩ hh
 · exact⟨g,cap,f,e,hR,hb⟩
theorem sInsert(a:Option Addr)(n c:Nat)(T:Nat->Td)(ds:ByteArray)(dn:Nat)(dC:Nat->Clm)(dr:Nat)(dm:Nat->Nat)(dR:Nat->Nat->Itm)(ac:Option Addr)(cc bR offR cr:Nat)(k0:Int)(tb:ByteArray)(a2:Option Addr)(n2 c2:Nat)(a3:Option Addr)(n3 c3:Nat)(col:ByteArray)(a5:Option Addr)(n5 c5:Nat)(a6:Option Addr)(n6 c6:Nat)(a7:Option Addr)(n7 c7:Nat)(V:Nat->Itm)(w:World)(h:TL w a n T)(hC:CL w ac dn dC)(hR:OL w (some ⟨bR,offR,none⟩) dr dm dR)(hV:IL w a3 n3 V)(hn:n<=1000000)(hF:Fil n T)(hN:Nice dn dr dm dR)(hcr:dr<=cr)(hds:ds.size<=1048576)(h3m:n3<=1048576)(hVs:∀ j,j<n3->(V j).s.size<=1048576) :
 Calls Tryz.prog 54 #[.agg #[.slice a n c],.agg #[.string ds,.slice ac dn cc,.slice (some ⟨bR,offR,none⟩) dr cr],.agg #[.int .i64 k0,.string tb,.slice a2 n2 c2,.slice a3 n3 c3,.string col,.slice a5 n5 c5,.slice a6 n6 c6,.slice a7 n7 c7]] w (Ans w (inA T n ds dn dC dr dm dR n3 V).1 (inA T n ds dn dC dr dm dR n3 V).2):=by
 have HF:Hid (Fil n T):=hF;have HN:Hid (Nice dn dr dm dR):=hN;have hn0:=hN.n0;have hn1:=hN.n1;have hr1:=hN.r1;clear hF hN;have hbU:Below w.heap.size w ((((w.alloc (.cells #[.slice a n c] 38)).alloc (.cells #[.string ds,.slice ac dn cc,.slice (some ⟨bR,offR,none⟩) dr cr] 62)).alloc (.cells #[.int .i64 k0,.string tb,.slice a2 n2 c2,.slice a3 n3 c3,.string col,.slice a5 n5 c5,.slice a6 n6 c6,.slice a7 n7 c7] 45)).alloc (.cells #[.slice none 0 0] 38)):=bstep (below3 _ _ _ _) (bal _ _);have hsU:((((w.alloc (.cells #[.slice a n c] 38)).alloc (.cells #[.string ds,.slice ac dn cc,.slice (some ⟨bR,offR,none⟩) dr cr] 62)).alloc (.cells #[.int .i64 k0,.string tb,.slice a2 n2 c2,.slice a3 n3 c3,.string col,.slice a5 n5 c5,.slice a6 n6 c6,.slice a7 n7 c7] 45)).alloc (.cells #[.slice none 0 0] 38)).heap.size=w.heap.size+4:=by rw [World.size_alloc,World.size_alloc,World.size_alloc,World.size_alloc]
 have hq0:((((w.alloc (.cells #[.slice a n c] 38)).alloc (.cells #[.string ds,.slice ac dn cc,.slice (some ⟨bR,offR,none⟩) dr cr] 62)).alloc (.cells #[.int .i64 k0,.string tb,.slice a2 n2 c2,.slice a3 n3 c3,.string col,.slice a5 n5 c5,.slice a6 n6 c6,.slice a7 n7 c7] 45)).alloc (.cells #[.slice none 0 0] 38)).heap[w.heap.size]?=some (.cells #[.slice a n c] 38 (0,0)):=rowL (rowL (rowL (heap_alloc_new w _) (bal _ _)) (bal _ _)) (bal _ _);have hq1:((((w.alloc (.cells #[.slice a n c] 38)).alloc (.cells #[.string ds,.slice ac dn cc,.slice (some ⟨bR,offR,none⟩) dr cr] 62)).alloc (.cells #[.int .i64 k0,.string tb,.slice a2 n2 c2,.slice a3 n3 c3,.string col,.slice a5 n5 c5,.slice a6 n6 c6,.slice a7 n7 c7] 45)).alloc (.cells #[.slice none 0 0] 38)).heap[w.heap.size+1]?=some (.cells #[.string ds,.slice ac dn cc,.slice (some ⟨bR,offR,none⟩) dr cr] 62 (0,0)):=by
  have q:=heap_alloc_new (w.alloc (.cells #[.slice a n c] 38)) (.cells #[.string ds,.slice ac dn cc,.slice (some ⟨bR,offR,none⟩) dr cr] 62);rw [World.size_alloc] at q;exact rowL (rowL q (bal _ _)) (bal _ _)
 have hq2:((((w.alloc (.cells #[.slice a n c] 38)).alloc (.cells #[.string ds,.slice ac dn cc,.slice (some ⟨bR,offR,none⟩) dr cr] 62)).alloc (.cells #[.int .i64 k0,.string tb,.slice a2 n2 c2,.slice a3 n3 c3,.string col,.slice a5 n5 c5,.slice a6 n6 c6,.slice a7 n7 c7] 45)).alloc (.cells #[.slice none 0 0] 38)).heap[w.heap.size+1+1]?=some (.cells #[.int .i64 k0,.string tb,.slice a2 n2 c2,.slice a3 n3 c3,.string col,.slice a5 n5 c5,.slice a6 n6 c6,.slice a7 n7 c7] 45 (0,0)):=by
  have q:=heap_alloc_new ((w.alloc (.cells #[.slice a n c] 38)).alloc (.cells #[.string ds,.slice ac dn cc,.slice (some ⟨bR,offR,none⟩) dr cr] 62)) (.cells #[.int .i64 k0,.string tb,.slice a2 n2 c2,.slice a3 n3 c3,.string col,.slice a5 n5 c5,.slice a6 n6 c6,.slice a7 n7 c7] 45);rw [World.size_alloc,World.size_alloc] at q;exact rowL q (bal _ _)
 have hq3:((((w.alloc (.cells #[.slice a n c] 38)).alloc (.cells #[.string ds,.slice ac dn cc,.slice (some ⟨bR,offR,none⟩) dr cr] 62)).alloc (.cells #[.int .i64 k0,.string tb,.slice a2 n2 c2,.slice a3 n3 c3,.string col,.slice a5 n5 c5,.slice a6 n6 c6,.slice a7 n7 c7] 45)).alloc (.cells #[.slice none 0 0] 38)).heap[w.heap.size+1+1+1]?=some (.cells #[.slice none 0 0] 38 (0,0)):=by
  have q:=heap_alloc_new (((w.alloc (.cells #[.slice a n c] 38)).alloc (.cells #[.string ds,.slice ac dn cc,.slice (some ⟨bR,offR,none⟩) dr cr] 62)).alloc (.cells #[.int .i64 k0,.string tb,.slice a2 n2 c2,.slice a3 n3 c3,.string col,.slice a5 n5 c5,.slice a6 n6 c6,.slice a7 n7 c7] 45)) (.cells #[.slice none 0 0] 38);rw [World.size_alloc,World.size_alloc,World.size_alloc] at q;exact q
 obtain⟨p0,-⟩:=box1 hq0;obtain⟨p1,p2,p3,-⟩:=box3 hq1;obtain⟨-,-,-,p4,-⟩:=box8 hq2;by_cases hnn:n3=dn
 rotate_left
 ·
  have n0:((n3:Int) != dn)=true:=by simp;omega
  have HA:Hid (inA T n ds dn dC dr dm dR n3 V=(tlL T n,4)):=by show _=_;unfold inA;rw [if_pos (by unfold typesB;simp [hnn])]
  clear hnn;go_enter Tryz.func54,Tryz.ntmps54
  go_wp2_with (first | (go_at_call 53;refine(sSame a n c T _ (h.later (hbU)) (by omega) HF.out).mono ?_;rintro e w2 ⟨a8,c8,rfl,hL8,hb8⟩;have s2:=rowL hq3 hb8;obtain⟨z2,f2⟩:=box1 s2))
  refine bodyPost_ret (results_cell_tmp Tryz.results54 _ _ (w.heap.size+1+1+1) 38 _ (0,0) _ rfl (row1 s2 _) Tryz.underlying38 rfl (by kernel_rfl)) rfl ?_;rw [HA.out];exact ans_same hbU hL8 hb8 (by omega) (by omega) _
 subst hnn;obtain⟨b2,off2,rfl,-⟩:=hC 0 hn0;obtain⟨b3,off3,rfl,-⟩:=hV 0 hn0;go_enter Tryz.func54,Tryz.ntmps54
 go_wp2;go_loopw [8,9,24] (fun _ _ i wr=>∃ k:Nat,k<=n3/\i=.int .i64 k/\(∀ j,j<k->(V j).o=(dC j).t)/\Below ((((w.alloc (.cells #[.slice a n c] 38)).alloc (.cells #[.string ds,.slice (some ⟨b2,off2,none⟩) n3 cc,.slice (some ⟨bR,offR,none⟩) dr cr] 62)).alloc (.cells #[.int .i64 k0,.string tb,.slice a2 n2 c2,.slice (some ⟨b3,off3,none⟩) n3 c3,.string col,.slice a5 n5 c5,.slice a6 n6 c6,.slice a7 n7 c7] 45)).alloc (.cells #[.slice none 0 0] 38)).heap.size ((((w.alloc (.cells #[.slice a n c] 38)).alloc (.cells #[.string ds,.slice (some ⟨b2,off2,none⟩) n3 cc,.slice (some ⟨bR,offR,none⟩) dr cr] 62)).alloc (.cells #[.int .i64 k0,.string tb,.slice a2 n2 c2,.slice (some ⟨b3,off3,none⟩) n3 c3,.string col,.slice a5 n5 c5,.slice a6 n6 c6,.slice a7 n7 c7] 45)).alloc (.cells #[.slice none 0 0] 38)) wr) (fun _ _ i _=>n3 - (intOf i).toNat)
 case atStart=>exact⟨0,Nat.zero_le _,rfl,fun j hj=>by omega,Below.refl _ _⟩
 case round=>
  obtain⟨k,hk,rfl,hty,hbr⟩:=hrel;have HTY:Hid (∀ j,j<k->(V j).o=(dC j).t):=hty;clear hty;have q0:=rowL hq0 hbr;have q1:=rowL hq1 hbr;have q2:=rowL hq2 hbr;have q3:=rowL hq3 hbr;obtain⟨u0,-⟩:=box1 q0;obtain⟨u1,u2,u3,uf1,uf2,uf3⟩:=box3 q1;obtain⟨-,-,-,u4,-⟩:=box8 q2;have hbw:=bstep hbU hbr;have hsr:=hbr.size;by_cases hlt:k<n3
  ·
   obtain⟨b5,off5,e5,x0,x1,x2,-⟩:=hV.later hbw k hlt;obtain⟨rfl,rfl⟩:b3=b5/\off3=off5:=by simpa using e5
   obtain⟨b6,off6,e6,y0,y1,-⟩:=hC.later hbw k hlt;obtain⟨rfl,rfl⟩:b2=b6/\off2=off6:=by simpa using e6
   clear e5 e6;have hkn:(k:Int)<n3:=by omega
   have hk0:(0:Int)<=k:=by omega
   obtain⟨t3,ht3⟩:∃ t,(V k).o=t:=⟨_,rfl⟩;obtain⟨t4,ht4⟩:∃ t,(dC k).t=t:=⟨_,rfl⟩;rw [ht3] at x0;rw [ht4] at y1;have HE:Hid ((V k).o=t3/\(dC k).t=t4):=⟨ht3,ht4⟩;clear ht3 ht4;have w2_:=keepB (bal wr (.cells #[.int .i64 t3,.int .i64 (V k).m,.string (V k).s] 66)) u2;have w3_:=keepB (bal wr (.cells #[.int .i64 t3,.int .i64 (V k).m,.string (V k).s] 66)) y1;have w4_:=(box3 (heap_alloc_new wr (.cells #[.int .i64 t3,.int .i64 (V k).m,.string (V k).s] 66))).1;go_upto_region 6 with (fail)
   refine wp_region_held_drew (S:=fun x=>Below (wr.alloc (.cells #[.int .i64 t3,.int .i64 (V k).m,.string (V k).s] 66)).heap.size (wr.alloc (.cells #[.int .i64 t3,.int .i64 (V k).m,.string (V k).s] 66)) x) (by kernel_rfl) (bdrew _) (fun jH=>?_);refine tk 0 (⟨some 29,.fieldAddr 66 (.tmp 9) 0,0,"l5_replay.go:281",#[],none⟩:Oper) (fun x jS=>by go_simp<;>rfl) jH ?_
   try simp only [zS]
   refine tk 1 (⟨some 30,.load 3 (.tmp 29),3,"l5_replay.go:281",#[⟨0,.data⟩],none⟩:Oper) (fun x jS=>by have k0:=keepB jS w2_;have k1:=keepB jS w3_;have k2:=keepB jS w4_;go_simp<;>rfl) jH ?_
   try simp only [zS]
   refine tk 2 (⟨some 31,.fieldAddr 62 (.tmp 4) 1,0,"l5_replay.go:281",#[],none⟩:Oper) (fun x jS=>by go_simp<;>rfl) jH ?_
   try simp only [zS]
   refine tk 3 (⟨some 32,.load 40 (.tmp 31),40,"l5_replay.go:281",#[⟨2,.data⟩],none⟩:Oper) (fun x jS=>by have k0:=keepB jS w2_;have k1:=keepB jS w3_;have k2:=keepB jS w4_;go_simp<;>rfl) jH ?_
   try simp only [zS]
   refine tk 4 (⟨some 33,.move (.tmp 8),3,"l5_replay.go:281",#[],none⟩:Oper) (fun x jS=>by go_simp<;>rfl) jH ?_
   try simp only [zS]
   refine tk 5 (⟨some 34,.indexAddr 40 (.tmp 32) (.tmp 33),0,"l5_replay.go:281",#[⟨3,.data⟩,⟨4,.data⟩],none⟩:Oper) (fun x jS=>by go_simp<;>rfl) jH ?_
   try simp only [zS]
   refine tk 6 (⟨some 35,.fieldAddr 113 (.tmp 34) 1,0,"l5_replay.go:281",#[⟨5,.data⟩],none⟩:Oper) (fun x jS=>by go_simp<;>rfl) jH ?_
   try simp only [zS]
   refine tk 7 (⟨some 36,.load 3 (.tmp 35),3,"l5_replay.go:281",#[⟨6,.data⟩],none⟩:Oper) (fun x jS=>by have k0:=keepB jS w2_;have k1:=keepB jS w3_;have k2:=keepB jS w4_;go_simp<;>rfl) jH ?_
   try simp only [zS]
   refine tk 8 (⟨some 37,.binOp .neq 3 (.tmp 30) (.tmp 36) 3,4,"l5_replay.go:281",#[⟨1,.data⟩,⟨7,.data⟩],none⟩:Oper) (fun x jS=>by go_simp<;>rfl) jH ?_
   try simp only [zS]
   refine wpAnyH_done (by kernel_rfl) ?_ _;have hb5:=bstep (bal wr (.cells #[.int .i64 t3,.int .i64 (V k).m,.string (V k).s] 66)) jH;generalize (wr.alloc (.cells #[.int .i64 t3,.int .i64 (V k).m,.string (V k).s] 66)).drew=w5 at hb5 ⊢;clear jH;by_cases ht:t3=t4
   ·
    subst ht;go_wp2;go_roundw
    case rel=>exact⟨k+1,by omega,by go_num,fun j hj=>by
     by_cases e:j=k
     · rw [e,HE.out.1,HE.out.2]
     · exact HTY.out j (by omega),bstep hbr hb5⟩
    case measure=>simp [intOf];omega
   ·
    have n1:(t3 != t4)=true:=by simpa using ht
    have HA:Hid (inA T n ds n3 dC dr dm dR n3 V=(tlL T n,4)):=by show _=_;unfold inA;rw [if_pos (types_no hlt (by rw [HE.out.1,HE.out.2];exact ht))]
    clear ht;have s0:=rowL q0 hb5;have s1:=rowL q3 hb5;obtain⟨z0,-⟩:=box1 s0;have hs5:=hb5.size;go_wp2_with (first | (go_at_call 53;refine(sSame a n c T _ (h.later (bstep hbw hb5)) (by omega) HF.out).mono ?_;rintro e w2 ⟨a8,c8,rfl,hL8,hb8⟩;have s2:=rowL s1 hb8;obtain⟨z2,f2⟩:=box1 s2))
    refine bodyPost_ret (results_cell_tmp Tryz.results54 _ _ (w.heap.size+1+1+1) 38 _ (0,0) _ rfl (row1 s2 _) Tryz.underlying38 rfl (by kernel_rfl)) rfl ?_;rw [HA.out];exact ans_same (bstep hbw hb5) hL8 hb8 (by omega) (by omega) _
  ·
   obtain rfl:k=n3:=by omega
   have HTB:Hid (typesB k k V dC=true):=types_yes HTY.out;obtain⟨p,hp⟩:∃ p,putN dR (V 0).m (V 0).s dr=p:=⟨_,rfl⟩;have HP:Hid (putN dR (V 0).m (V 0).s dr=p):=hp;have hpl:p<=dr:=by rw [←hp];exact putN_le
   clear hp;have HPut:=sPut bR offR dr cr dm dR (some ⟨b3,off3,none⟩) k c3 V w wr hR hV hbw hn0 hn1 (fun j hj=>by rw [HN.out.len j hj];exact hn0) hr1 hcr p HP.out;by_cases hit:p<dr/\cmpV (dR p 0).m (dR p 0).s (V 0).m (V 0).s=0
   ·
    have HIT:Hid (p<dr/\cmpV (dR p 0).m (dR p 0).s (V 0).m (V 0).s=0):=hit;have HA:Hid (inA T n ds k dC dr dm dR k V=(tlL T n,5)):=by show _=_;unfold inA;rw [HTB.out,HP.out,if_neg (by simp),if_pos hit]
    clear hit;go_wp2_with (first | (go_at_call 104;refine HPut.mono ?_;intro e w5 hA5;obtain⟨rfl,hb5⟩:=hA5.yes HIT.out;have s0:=rowL q0 hb5;have s3:=rowL q3 hb5;obtain⟨z0,-⟩:=box1 s0) | (go_at_call 53;refine(sSame a n c T _ (h.later (bstep hbw hb5)) (by omega) HF.out).mono ?_;rintro e w2 ⟨a8,c8,rfl,hL8,hb8⟩;have s2:=rowL s3 hb8;obtain⟨z2,f2⟩:=box1 s2))
    refine bodyPost_ret (results_cell_tmp Tryz.results54 _ _ (w.heap.size+1+1+1) 38 _ (0,0) _ rfl (row1 s2 _) Tryz.underlying38 rfl (by kernel_rfl)) rfl ?_;rw [HA.out];exact ans_same (bstep hbw hb5) hL8 hb8 (by omega) (by have:=hb5.size;omega) _
   ·
    have HIT:Hid (¬(p<dr/\cmpV (dR p 0).m (dR p 0).s (V 0).m (V 0).s=0)):=hit;by_cases h1000:dr=1000
    ·
     subst h1000;have HA:Hid (inA T n ds k dC 1000 dm dR k V=(tlL T n,6)):=by show _=_;unfold inA;rw [HTB.out,HP.out,if_neg (by simp),if_neg hit,if_pos rfl]
     clear hit;go_wp2_with (first | (go_at_call 104;refine HPut.mono ?_;intro e w5 hA5;obtain⟨g,cap,f,rfl,hRO,hb5⟩:=hA5.no HIT.out;have s0:=rowL q0 hb5;have s1:=rowL q1 hb5;have s3:=rowL q3 hb5;obtain⟨z0,-⟩:=box1 s0;obtain⟨y1,y2,y3,yf1,yf2,yf3⟩:=box3 s1) | (go_at_call 53;refine(sSame a n c T _ (h.later (bstep hbw hb5)) (by omega) HF.out).mono ?_;rintro e w2 ⟨a8,c8,rfl,hL8,hb8⟩;have s2:=rowL s3 hb8;obtain⟨z2,f2⟩:=box1 s2))
     refine bodyPost_ret (results_cell_tmp Tryz.results54 _ _ (w.heap.size+1+1+1) 38 _ (0,0) _ rfl (row1 s2 _) Tryz.underlying38 rfl (by kernel_rfl)) rfl ?_;rw [HA.out];exact ans_same (bstep hbw hb5) hL8 hb8 (by omega) (by have:=hb5.size;omega) _
    ·
     have n1000:((dr:Int) == 1000)=false:=by simp;omega
     have HA:Hid (inA T n ds k dC dr dm dR k V=(wtL T (inT ds k dC dr dm dR k V p) n,0)):=by show _=_;unfold inA;rw [HTB.out,HP.out,if_neg (by simp),if_neg hit,if_neg h1000]
     clear hit h1000;have HAM:Hid (∀ i,i<dr+1->(putL dm dR (k,V) p i).1=k/\∀ j,j<k->((putL dm dR (k,V) p i).2 j).s.size<=1048576):=putL_mem (P:=fun x=>x.1=k/\∀ j,j<k->(x.2 j).s.size<=1048576) hpl (fun j hj=>⟨HN.out.len j hj,fun q hq=>by have:=HN.out.txt j hj q hq;show (dR j q).s.size<=_;omega⟩) ⟨rfl,hVs⟩;have HSM:Hid (Sm3 (inT ds k dC dr dm dR k V p)):=⟨hds,⟨hn1,fun j hj=>by obtain⟨_,_,_,_,_,hz⟩:=hC j hj;exact hz⟩,⟨by show dr+1<=_;omega,fun j hj=>⟨by show (putL dm dR (k,V) p j).1<=_;rw [(HAM.out j hj).1];exact hn1,fun q hq=>(HAM.out j hj).2 q (by rw [←(HAM.out j hj).1];exact hq)⟩⟩⟩;have HNN:Hid (0<(inT ds k dC dr dm dR k V p).n/\∀ i,i<(inT ds k dC dr dm dR k V p).r->0<(inT ds k dC dr dm dR k V p).m i):=⟨hn0,fun i hi=>by show 0<(putL dm dR (k,V) p i).1;rw [(HAM.out i hi).1];exact hn0⟩;go_wp2_with (first | (go_at_call 103;refine(sWith_as a n c T ds k dC (dr+1) (fun i=>(putL dm dR (k,V) p i).1) (fun i=>(putL dm dR (k,V) p i).2) (some ⟨b2,off2,none⟩) cc (some ⟨g,0,none⟩) cap (inT ds k dC dr dm dR k V p) rfl _ (h.later hbY) (hC.later hbY) hOL HSM.out hn HF.out HNN.out).mono ?_;rintro e w2 ⟨a8,c8,rfl,hL8,hb8⟩;have s2:=rowL q3Y hb8;obtain⟨z2,f2⟩:=box1 s2) | (go_at_call 104;refine HPut.mono ?_;intro e w5 hA5;obtain⟨g,cap,f,rfl,hRO,hb5⟩:=hA5.no HIT.out;have s0:=rowL q0 hb5;have s1:=rowL q1 hb5;have s3:=rowL q3 hb5;obtain⟨y1,y2,y3,yf1,yf2,yf3⟩:=box3 s1;have hbY:Below w.heap.size w (w5.setCell ⟨w.heap.size+1,2,none⟩ (.slice (some ⟨g,0,none⟩) (dr+1) cap)):=bset (bstep hbw hb5) (by omega);have hsY:(w5.setCell ⟨w.heap.size+1,2,none⟩ (.slice (some ⟨g,0,none⟩) (dr+1) cap)).heap.size=w5.heap.size:=World.size_setCell _ _ _;have qY:(w5.setCell ⟨w.heap.size+1,2,none⟩ (.slice (some ⟨g,0,none⟩) (dr+1) cap)).heap[w.heap.size+1]?=some (.cells #[.string ds,.slice (some ⟨b2,off2,none⟩) k cc,.slice (some ⟨g,0,none⟩) (dr+1) cap] 62 (0,0)):=heap_setCell_same _ _ 2 _ _ _ s1;obtain⟨o1,o2,o3,-⟩:=box3 qY;obtain⟨o0,-⟩:=box1 (rowO (i:=2) (v:=.slice (some ⟨g,0,none⟩) (dr+1) cap) s0 (show w.heap.size≠w.heap.size+1 by omega));have q3Y:=rowO (B:=w.heap.size+1) (i:=2) (v:=.slice (some ⟨g,0,none⟩) (dr+1) cap) s3 (by omega);obtain⟨aO,cO,eO,hOL⟩:=RO.ol (hRO.set (B:=w.heap.size+1) (i:=2) (u:=.slice (some ⟨g,0,none⟩) (dr+1) cap) (by omega) (by omega));obtain⟨rfl,rfl⟩:some ⟨g,0,none⟩=aO/\cap=cO:=(by simpa using eO)))
     refine bodyPost_ret (results_cell_tmp Tryz.results54 _ _ (w.heap.size+1+1+1) 38 _ (0,0) _ rfl (row1 s2 _) Tryz.underlying38 rfl (by kernel_rfl)) rfl ?_;rw [HA.out];exact ans_with hbY hL8 hb8 (by omega) (by have:=hb5.size;omega) 0
def keyC(x y:Rw):Int:=cmpV (x.2 0).m (x.2 0).s (y.2 0).m (y.2 0).s
def mgF:Nat->List Rw->List Rw->List Rw
 | 0,_,_=>[]
 | _+1,[],[]=>[]
 | s+1,x :: a,[]=>x :: mgF s a []
 | s+1,[],y :: b=>y :: mgF s [] b
 | s+1,x :: a,y :: b=>if keyC x y<=0 then x :: mgF s a (y :: b) else y :: mgF s (x :: a) b
def srt:Nat->List Rw->List Rw
 | 0,L=>L
 | f+1,L=>if L.length<2 then L else mgF L.length (srt f (L.take (L.length / 2))) (srt f (L.drop (L.length / 2)))
theorem mgF_len:∀ (s:Nat) (a b:List Rw),a.length+b.length=s->(mgF s a b).length=s
 | 0,[],[],_=>rfl
 | 0,_ :: _,_,h=>by simp at h
 | 0,[],_ :: _,h=>by simp at h
 | s+1,[],[],h=>by simp at h
 | s+1,x :: a,[],h=>by
  simp only [List.length_cons,List.length_nil] at h
  rw [mgF,List.length_cons,mgF_len s a [] (by simp;omega)]
 | s+1,[],y :: b,h=>by
  simp only [List.length_cons,List.length_nil] at h
  rw [mgF,List.length_cons,mgF_len s [] b (by simp;omega)]
 | s+1,x :: a,y :: b,h=>by
  simp only [List.length_cons] at h
  rw [mgF];split
  · rw [List.length_cons,mgF_len s a (y :: b) (by simp;omega)]
  · rw [List.length_cons,mgF_len s (x :: a) b (by simp;omega)]
theorem srt_len:∀ (f:Nat) (L:List Rw),(srt f L).length=L.length
 | 0,L=>rfl
 | f+1,L=>by
  rw [srt];split
  · rfl
  · rw [mgF_len];rw [srt_len f,srt_len f,List.length_take,List.length_drop];omega
theorem mgF_mem{P:Rw->Prop}:∀ (s:Nat) (a b:List Rw),(∀ x∈a,P x)->(∀ x∈b,P x)->∀ x∈mgF s a b,P x
 | 0,_,_,_,_,x,hx=>by simp [mgF] at hx
 | s+1,[],[],_,_,x,hx=>by simp [mgF] at hx
 | s+1,y :: a,[],ha,hb,x,hx=>by
  rw [mgF,List.mem_cons] at hx;rcases hx with rfl | hx
  · exact ha _ (by simp)
  · exact mgF_mem s a [] (fun z hz=>ha z (by simp [hz])) hb x hx
 | s+1,[],y :: b,ha,hb,x,hx=>by
  rw [mgF,List.mem_cons] at hx;rcases hx with rfl | hx
  · exact hb _ (by simp)
  · exact mgF_mem s [] b ha (fun z hz=>hb z (by simp [hz])) x hx
 | s+1,y :: a,z :: b,ha,hb,x,hx=>by
  rw [mgF] at hx;split at hx <;> rw [List.mem_cons] at hx <;> rcases hx with rfl | hx
  · exact ha _ (by simp)
  · exact mgF_mem s a (z :: b) (fun q hq=>ha q (by simp [hq])) hb x hx
  · exact hb _ (by simp)
  · exact mgF_mem s (y :: a) b ha (fun q hq=>hb q (by simp [hq])) x hx
theorem srt_mem{P:Rw->Prop}:∀ (f:Nat) (L:List Rw),(∀ x∈L,P x)->∀ x∈srt f L,P x
 | 0,L,h,x,hx=>h x hx
 | f+1,L,h,x,hx=>by
  rw [srt] at hx;split at hx
  · exact h x hx
  · exact mgF_mem _ _ _ (srt_mem f _ (fun z hz=>h z (List.mem_of_mem_take hz))) (srt_mem f _ (fun z hz=>h z (List.mem_of_mem_drop hz))) x hx
theorem mg_a{A B:List Rw}{i j:Nat}(hi:i<A.length)(h:j=B.length∨(j<B.length/\keyC (A.getD i r0) (B.getD j r0)<=0)):mgF (A.length - i+(B.length - j)) (A.drop i) (B.drop j)=A.getD i r0 :: mgF (A.length - (i+1)+(B.length - j)) (A.drop (i+1)) (B.drop j):=by
 have eA:A.drop i=A.getD i r0 :: A.drop (i+1):=by
  rw [List.drop_eq_getElem_cons hi];simp [hi]
 rcases h with rfl | ⟨hj,hc⟩
 · rw [List.drop_length,eA,show A.length - i+(B.length - B.length)=(A.length - (i+1)+(B.length - B.length))+1 from by omega,mgF]
 ·
  have eB:B.drop j=B.getD j r0 :: B.drop (j+1):=by
   rw [List.drop_eq_getElem_cons hj];simp [hj]
  rw [eA,eB,show A.length - i+(B.length - j)=(A.length - (i+1)+(B.length - j))+1 from by omega,mgF,if_pos hc]
theorem mg_b{A B:List Rw}{i j:Nat}(hj:j<B.length)(h:i=A.length∨(i<A.length/\¬keyC (A.getD i r0) (B.getD j r0)<=0)):mgF (A.length - i+(B.length - j)) (A.drop i) (B.drop j)=B.getD j r0 :: mgF (A.length - i+(B.length - (j+1))) (A.drop i) (B.drop (j+1)):=by
 have eB:B.drop j=B.getD j r0 :: B.drop (j+1):=by
  rw [List.drop_eq_getElem_cons hj];simp [hj]
 rcases h with rfl | ⟨hi,hc⟩
 · rw [List.drop_length,eB,show A.length - A.length+(B.length - j)=(A.length - A.length+(B.length - (j+1)))+1 from by omega,mgF]
 ·
  have eA:A.drop i=A.getD i r0 :: A.drop (i+1):=by
   rw [List.drop_eq_getElem_cons hi];simp [hi]
  rw [eA,eB,show A.length - i+(B.length - j)=(A.length - i+(B.length - (j+1)))+1 from by omega,mgF,if_neg hc]
def OD(D:Nat->Prop)(w:World)(a:Option Addr)(A:List Rw):Prop:=
 ∀ k,k<A.length->∃ b off i c,a=some ⟨b,off,none⟩/\D b/\w.cell? ⟨b,off+k,none⟩=some (.slice i (A.getD k r0).1 c)/\Liv D w (ER [.slice i (A.getD k r0).1 c] (A.getD k r0))
theorem OD.later{D:Nat->Prop}{w w':World}{a:Option Addr}{A:List Rw}(h:OD D w a A)(hb:Below w.heap.size w w'):OD D w' a A:=fun k hk=>by
 obtain⟨b,off,i,c,e,hd,c0,hl⟩:=h k hk;exact⟨b,off,i,c,e,hd,keepB hb c0,hl.later hb⟩
theorem OD.cut{D:Nat->Prop}{w:World}{a:Option Addr}{A:List Rw}(h:OD D w a A):OD (fun b=>D b/\b<w.heap.size) w a A:=fun k hk=>by
 obtain⟨b,off,i,c,e,hd,c0,hl⟩:=h k hk;exact⟨b,off,i,c,e,⟨hd,World.block_lt_of_cell? w _ c0⟩,c0,hl.wide (fun b hx hs=>⟨hx,hs⟩)⟩
theorem OD.wide{D D':Nat->Prop}{w:World}{a:Option Addr}{A:List Rw}(h:OD D w a A)(hD:∀ b,D b->D' b):OD D' w a A:=fun k hk=>by
 obtain⟨b,off,i,c,e,hd,c0,hl⟩:=h k hk;exact⟨b,off,i,c,e,hD _ hd,c0,hl.wide (fun b hx _=>hD b hx)⟩
theorem OD.set{D:Nat->Prop}{w:World}{a:Option Addr}{A:List Rw}{B i:Nat}{v:Value}(h:OD D w a A)(hB:¬D B):OD D (w.setCell ⟨B,i,none⟩ v) a A:=fun k hk=>by
 obtain⟨b,off,j,c,e,hd,c0,hl⟩:=h k hk;refine⟨b,off,j,c,e,hd,?_,hl.set hB⟩;rw [World.cell?_setCell_far _ _ _ _ (show B≠b from fun e=>hB (by rw [e];exact hd))]
 exact c0
theorem OD.take{D:Nat->Prop}{w:World}{a:Option Addr}{A:List Rw}(h:OD D w a A)(n:Nat):OD D w a (A.take n):=fun k hk=>by
 rw [List.length_take] at hk;obtain⟨b,off,i,c,e,hd,c0,hl⟩:=h k (by omega);have e2:(A.take n).getD k r0=A.getD k r0:=by simp [show k<n from by omega]
 rw [e2];exact⟨b,off,i,c,e,hd,c0,hl⟩
theorem OD.drop{D:Nat->Prop}{w:World}{b off:Nat}{A:List Rw}(h:OD D w (some ⟨b,off,none⟩) A)(n:Nat):OD D w (some ⟨b,off+n,none⟩) (A.drop n):=fun k hk=>by
 rw [List.length_drop] at hk;obtain⟨b',off',i,c,e,hd,c0,hl⟩:=h (n+k) (by omega);obtain⟨rfl,rfl⟩:b=b'/\off=off':=by simpa using e
 have e2:(A.drop n).getD k r0=A.getD (n+k) r0:=by simp
 rw [e2];exact⟨b,off+n,i,c,rfl,hd,by rw [Nat.add_assoc];exact c0,hl⟩
theorem OD.ol{D:Nat->Prop}{w:World}{a:Option Addr}{A:List Rw}(h:OD D w a A):OL w a A.length (fun i=>(A.getD i r0).1) (fun i=>(A.getD i r0).2):=fun k hk=>by
 obtain⟨b,off,i,c,e,-,c0,hl⟩:=h k hk;obtain⟨a2,c2,e2,hI,hs⟩:=hl.now;simp only [List.cons.injEq,and_true,Value.slice.injEq,true_and] at e2
 obtain⟨rfl,rfl⟩:=e2;exact⟨b,off,i,c,e,c0,hI,hs⟩
theorem RO.od{G:Nat}{D D':Nat->Prop}{w:World}{v:Value}{A:List Rw}{f:Nat->List Value}(h:RO G D w v A.length (fun i=>A.getD i r0) f)(h1:∀ b,D b->D' b)(h2:∀ b,G<=b->D' b):∃ a c,v=.slice a A.length c/\OD D' w a A:=by
 rcases own_shape h.own with ⟨rfl,e0⟩ | ⟨g,cap,rfl⟩
 · refine⟨none,0,by rw [e0],fun k hk=>by omega⟩
 · refine⟨some ⟨g,0,none⟩,cap,rfl,fun k hk=>?_⟩;have hg:=(h.own.lt g rfl).1;have hl:=h.liv k hk;obtain⟨a,c,e,hI,hs⟩:=hl.now;have:=h.cell (j:=0) hk (by omega);rw [e] at this hl;refine⟨g,0,a,c,rfl,h2 g hg,?_,hl.wide (fun b hx _=>h1 b hx.1)⟩;rw [Nat.zero_add];simpa using this
end Go.Proofs.YtgeiamgeclbiaaaGreatDoor
