import Derived.Test.YtgeiamgeclbiaaaGreatDoorUsa
namespace Go.Proofs.YtgeiamgeclbiaaaGreatDoor
open Go.RowKit Go.Maps Go.WideMaps
set_option maxRecDepth 20000
set_option maxHeartbeats 16000000
theorem sApply5(g n c:Nat)(T:Nat->Td)(k0:Int)(tb:ByteArray)(a2:Option Addr)(n2 c2:Nat)(a3:Option Addr)(n3 c3:Nat)(col:ByteArray)(a5:Option Addr)(n5 c5:Nat)(a6:Option Addr)(n6 c6:Nat)(a7:Option Addr)(n7 c7:Nat)(C:Nat->Clm)(V E W:Nat->Itm)(m7:Nat->Nat)(O:Nat->Nat->Itm)(D:St)(hD:(⟨k0,tb,n2,C,n3,V,col,n5,E,n6,W,n7,m7,O⟩:St)=D)(w:World)(hT:TN w g n T)(hS:SM w ⟨k0,tb,n2,C,n3,V,col,n5,E,n6,W,n7,m7,O⟩ ⟨a2,c2,a3,c3,a5,c5,a6,c6,a7,c7⟩)(hn:n<=1048576)(hc2:n2<=c2) :
 Calls Tryz.prog 18 #[.agg #[.slice (some ⟨g,0,none⟩) n c],.agg #[.int .i64 k0,.string tb,.slice a2 n2 c2,.slice a3 n3 c3,.string col,.slice a5 n5 c5,.slice a6 n6 c6,.slice a7 n7 c7]] w (Ans w (apA n T D).1 (apA n T D).2):=by
 have hbU:Below w.heap.size w (((w.alloc (.cells #[.slice (some ⟨g,0,none⟩) n c] 38)).alloc (.cells #[.int .i64 k0,.string tb,.slice a2 n2 c2,.slice a3 n3 c3,.string col,.slice a5 n5 c5,.slice a6 n6 c6,.slice a7 n7 c7] 45)).alloc (.cells #[.slice none 0 0] 38)):=below3 _ _ _ _;have hsU:(((w.alloc (.cells #[.slice (some ⟨g,0,none⟩) n c] 38)).alloc (.cells #[.int .i64 k0,.string tb,.slice a2 n2 c2,.slice a3 n3 c3,.string col,.slice a5 n5 c5,.slice a6 n6 c6,.slice a7 n7 c7] 45)).alloc (.cells #[.slice none 0 0] 38)).heap.size=w.heap.size+3:=by rw [World.size_alloc,World.size_alloc,World.size_alloc]
 have hq0:(((w.alloc (.cells #[.slice (some ⟨g,0,none⟩) n c] 38)).alloc (.cells #[.int .i64 k0,.string tb,.slice a2 n2 c2,.slice a3 n3 c3,.string col,.slice a5 n5 c5,.slice a6 n6 c6,.slice a7 n7 c7] 45)).alloc (.cells #[.slice none 0 0] 38)).heap[w.heap.size]?=some (.cells #[.slice (some ⟨g,0,none⟩) n c] 38 (0,0)):=rowL (rowL (heap_alloc_new w _) (bal _ _)) (bal _ _);have hq1:(((w.alloc (.cells #[.slice (some ⟨g,0,none⟩) n c] 38)).alloc (.cells #[.int .i64 k0,.string tb,.slice a2 n2 c2,.slice a3 n3 c3,.string col,.slice a5 n5 c5,.slice a6 n6 c6,.slice a7 n7 c7] 45)).alloc (.cells #[.slice none 0 0] 38)).heap[w.heap.size+1]?=some (.cells #[.int .i64 k0,.string tb,.slice a2 n2 c2,.slice a3 n3 c3,.string col,.slice a5 n5 c5,.slice a6 n6 c6,.slice a7 n7 c7] 45 (0,0)):=by
  have q:=heap_alloc_new (w.alloc (.cells #[.slice (some ⟨g,0,none⟩) n c] 38)) (.cells #[.int .i64 k0,.string tb,.slice a2 n2 c2,.slice a3 n3 c3,.string col,.slice a5 n5 c5,.slice a6 n6 c6,.slice a7 n7 c7] 45);rw [World.size_alloc] at q;exact rowL q (bal _ _)
 have hq2:(((w.alloc (.cells #[.slice (some ⟨g,0,none⟩) n c] 38)).alloc (.cells #[.int .i64 k0,.string tb,.slice a2 n2 c2,.slice a3 n3 c3,.string col,.slice a5 n5 c5,.slice a6 n6 c6,.slice a7 n7 c7] 45)).alloc (.cells #[.slice none 0 0] 38)).heap[w.heap.size+1+1]?=some (.cells #[.slice none 0 0] 38 (0,0)):=by
  have q:=heap_alloc_new ((w.alloc (.cells #[.slice (some ⟨g,0,none⟩) n c] 38)).alloc (.cells #[.int .i64 k0,.string tb,.slice a2 n2 c2,.slice a3 n3 c3,.string col,.slice a5 n5 c5,.slice a6 n6 c6,.slice a7 n7 c7] 45)) (.cells #[.slice none 0 0] 38);rw [World.size_alloc,World.size_alloc] at q;exact q
 have HDB0:=sDb g n c T (((w.alloc (.cells #[.slice (some ⟨g,0,none⟩) n c] 38)).alloc (.cells #[.int .i64 k0,.string tb,.slice a2 n2 c2,.slice a3 n3 c3,.string col,.slice a5 n5 c5,.slice a6 n6 c6,.slice a7 n7 c7] 45)).alloc (.cells #[.slice none 0 0] 38)) (hT.tc.later hbU) hn;obtain⟨db,hdb⟩:∃ b,okDb n T=b:=⟨_,rfl⟩;obtain⟨sb,hsb⟩:∃ b,okStm D=b:=⟨_,rfl⟩;rw [hdb] at HDB0;have HDB:Hid (Calls Tryz.prog 50 #[.agg #[.slice (some ⟨g,0,none⟩) n c]] (((w.alloc (.cells #[.slice (some ⟨g,0,none⟩) n c] 38)).alloc (.cells #[.int .i64 k0,.string tb,.slice a2 n2 c2,.slice a3 n3 c3,.string col,.slice a5 n5 c5,.slice a6 n6 c6,.slice a7 n7 c7] 45)).alloc (.cells #[.slice none 0 0] 38)) (fun e w'=>e=.returned (.bool db)/\Below (((w.alloc (.cells #[.slice (some ⟨g,0,none⟩) n c] 38)).alloc (.cells #[.int .i64 k0,.string tb,.slice a2 n2 c2,.slice a3 n3 c3,.string col,.slice a5 n5 c5,.slice a6 n6 c6,.slice a7 n7 c7] 45)).alloc (.cells #[.slice none 0 0] 38)).heap.size (((w.alloc (.cells #[.slice (some ⟨g,0,none⟩) n c] 38)).alloc (.cells #[.int .i64 k0,.string tb,.slice a2 n2 c2,.slice a3 n3 c3,.string col,.slice a5 n5 c5,.slice a6 n6 c6,.slice a7 n7 c7] 45)).alloc (.cells #[.slice none 0 0] 38)) w')):=HDB0;have HST:Hid (∀ W',Below w.heap.size w W'->Calls Tryz.prog 51 #[.agg #[.int .i64 k0,.string tb,.slice a2 n2 c2,.slice a3 n3 c3,.string col,.slice a5 n5 c5,.slice a6 n6 c6,.slice a7 n7 c7]] W' (fun e w'=>e=.returned (.bool sb)/\Below W'.heap.size W' w')):=fun W' hW'=>by
  have:=sStm_as k0 tb n2 C n3 V col n5 E n6 W n7 m7 O a2 c2 a3 c3 a5 c5 a6 c6 a7 c7 D hD W' (hS.later hW');rwa [hsb] at this
 clear HDB0;cases db
 ·
  have HA:Hid (apA n T D=([],7)):=by show _=_;unfold apA;rw [if_pos hdb]
  obtain⟨b0,bf0⟩:=box1 hq2;obtain⟨c0,-⟩:=box1 hq0;go_enter Tryz.func18,Tryz.ntmps18
  go_wp2_with (first | (go_at_call 50;refine(HDB.out).mono ?_;rintro e w1 ⟨rfl,hb1⟩;have hB1:=bstep hbU hb1;have hss1:=hb1.size;have x0:=rowL hq0 hb1;have x1:=rowL hq1 hb1;have x2:=rowL hq2 hb1;obtain⟨xa,-⟩:=box1 x0;obtain⟨xb0,xb1,xb2,xb3,xb4,xb5,xb6,xb7⟩:=box8 x1;obtain⟨z2_,f2_⟩:=box1 x2))
  refine bodyPost_ret (results_cell_tmp Tryz.results18 _ _ (w.heap.size+1+1) 38 _ (0,0) _ rfl (row1 x2 _) Tryz.underlying38 rfl (by kernel_rfl)) rfl ?_;rw [HA.out];exact⟨none,0,rfl,fun v _ k hk=>absurd hk (Nat.not_lt_zero k),bset hB1 (by omega)⟩
 cases sb
 ·
  have HA:Hid (apA n T D=([],7)):=by show _=_;unfold apA;rw [if_neg (by rw [hdb];simp),if_pos hsb]
  obtain⟨c0,-⟩:=box1 hq0;go_enter Tryz.func18,Tryz.ntmps18
  go_wp2_with (first | (go_at_call 50;refine(HDB.out).mono ?_;rintro e w1 ⟨rfl,hb1⟩;have hB1:=bstep hbU hb1;have hss1:=hb1.size;have x0:=rowL hq0 hb1;have x1:=rowL hq1 hb1;have x2:=rowL hq2 hb1;obtain⟨xa,-⟩:=box1 x0;obtain⟨xb0,xb1,xb2,xb3,xb4,xb5,xb6,xb7⟩:=box8 x1) | (go_at_call 51;refine(HST.out _ hB1).mono ?_;rintro e w2 ⟨rfl,hb2⟩;have hB2:=bstep hB1 hb2;have hss2:=hb2.size;have y0:=rowL x0 hb2;have y1:=rowL x1 hb2;have y2:=rowL x2 hb2;obtain⟨ya,-⟩:=box1 y0;obtain⟨yb0,yb1,yb2,yb3,yb4,yb5,yb6,yb7⟩:=box8 y1;obtain⟨z2_,f2_⟩:=box1 y2))
  refine bodyPost_ret (results_cell_tmp Tryz.results18 _ _ (w.heap.size+1+1) 38 _ (0,0) _ rfl (row1 y2 _) Tryz.underlying38 rfl (by kernel_rfl)) rfl ?_;rw [HA.out];exact⟨none,0,rfl,fun v _ k hk=>absurd hk (Nat.not_lt_zero k),bset hB2 (by omega)⟩
 obtain⟨hn100,hok⟩:=okDb_out hdb;have HF:Hid (Fil n T):=okDb_fil hdb;have HOK:Hid (∀ k,k<n->okTd (T k)=true):=hok;have HOS:Hid (okStm D=true):=hsb;have HAP:Hid (apA n T D=if D.k=1 then crA T n D.tb D.n2 D.C
 else match tabI T D.tb n with
  | none=>(tlL T n,1)
  | some j=>if D.k=2 then inA T n (T j).s (T j).n (T j).C (T j).r (T j).m (T j).R D.n3 D.V
   else if D.k=3 then upA T n (T j).s (T j).n (T j).C (T j).r (T j).m (T j).R D.col D.E D.n5 D.W D.n6
   else if D.k=4 then dlA T n (T j).s (T j).n (T j).C (T j).r (T j).m (T j).R D.W D.n6
   else (tlL T n,slC (T j).C (T j).n D.m7 D.O D.n7 D.W D.n6)):=by show _=_;unfold apA;rw [if_neg (by rw [hdb];simp),if_neg (by rw [hsb];simp)];rfl
 clear hdb hsb hok;have HD:Hid ((⟨k0,tb,n2,C,n3,V,col,n5,E,n6,W,n7,m7,O⟩:St)=D):=hD;clear hD;obtain⟨c0,-⟩:=box1 hq0;by_cases hk1:k0=1
 ·
  subst hk1;have hr:=rest1 HOS.out (by rw [←HD.out]);rw [←HD.out] at hr;simp only at hr
  obtain⟨A1,cd1,hA1⟩:∃ A cd,crA T n tb n2 C=(A,cd):=⟨_,_,rfl⟩;have HA:Hid (apA n T D=(A1,cd1)):=by show _=_;rw [HAP.out,←HD.out];simp [hA1]
  have HCR:Hid (∀ W',Below w.heap.size w W'->Calls Tryz.prog 52 #[.agg #[.slice (some ⟨g,0,none⟩) n c],.agg #[.int .i64 1,.string tb,.slice a2 n2 c2,.slice a3 n3 c3,.string col,.slice a5 n5 c5,.slice a6 n6 c6,.slice a7 n7 c7]] W' (Ans W' A1 cd1)):=fun W' hW'=>by
   have:=sCreate (some ⟨g,0,none⟩) n c T 1 tb a2 n2 c2 a3 n3 c3 col a5 n5 c5 a6 n6 c6 a7 n7 c7 C W' (hT.tl.later hW') (hS.co.later hW') (by omega) HF.out hr.1 (by omega) hc2 hS.tb;rwa [hA1] at this
  clear hA1;go_enter Tryz.func18,Tryz.ntmps18
  go_wp2_with (first | (go_at_call 50;refine(HDB.out).mono ?_;rintro e w1 ⟨rfl,hb1⟩;have hB1:=bstep hbU hb1;have hss1:=hb1.size;have x0:=rowL hq0 hb1;have x1:=rowL hq1 hb1;have x2:=rowL hq2 hb1;obtain⟨xa,-⟩:=box1 x0;obtain⟨xb0,xb1,xb2,xb3,xb4,xb5,xb6,xb7⟩:=box8 x1) | (go_at_call 51;refine(HST.out _ hB1).mono ?_;rintro e w2 ⟨rfl,hb2⟩;have hB2:=bstep hB1 hb2;have hss2:=hb2.size;have y0:=rowL x0 hb2;have y1:=rowL x1 hb2;have y2:=rowL x2 hb2;obtain⟨ya,-⟩:=box1 y0;obtain⟨yb0,yb1,yb2,yb3,yb4,yb5,yb6,yb7⟩:=box8 y1) | (go_at_call 52;refine(HCR.out _ hB2).mono ?_;rintro e w9 ⟨a8,c8,rfl,hL8,hb8⟩;have s2:=rowL y2 hb8;obtain⟨z2_,f2_⟩:=box1 s2))
  refine bodyPost_ret (results_cell_tmp Tryz.results18 _ _ (w.heap.size+1+1) 38 _ (0,0) _ rfl (row1 s2 _) Tryz.underlying38 rfl (by kernel_rfl)) rfl ?_;rw [HA.out];exact ans_with hB2 hL8 hb8 (by omega) (by omega) _
 have nk1:(k0 == 1)=false:=by simpa using hk1
 rcases ht:tabI T tb n with _ | j
 ·
  have HA:Hid (apA n T D=(tlL T n,1)):=by show _=_;rw [HAP.out,←HD.out];simp only;rw [if_neg hk1,ht]
  have HTB:Hid (∀ W',Below w.heap.size w W'->Calls Tryz.prog 26 #[.agg #[.slice (some ⟨g,0,none⟩) n c],.string tb] W' (fun e w'=>e=.returned (.int .i64 (-1))/\Below W'.heap.size W' w')):=fun W' hW'=>by
   have:=sTable (some ⟨g,0,none⟩) n c T tb W' (hT.tl.later hW') hn;rwa [ht] at this
  clear ht hk1;go_enter Tryz.func18,Tryz.ntmps18
  go_wp2_with (first | (go_at_call 50;refine(HDB.out).mono ?_;rintro e w1 ⟨rfl,hb1⟩;have hB1:=bstep hbU hb1;have hss1:=hb1.size;have x0:=rowL hq0 hb1;have x1:=rowL hq1 hb1;have x2:=rowL hq2 hb1;obtain⟨xa,-⟩:=box1 x0;obtain⟨xb0,xb1,xb2,xb3,xb4,xb5,xb6,xb7⟩:=box8 x1) | (go_at_call 51;refine(HST.out _ hB1).mono ?_;rintro e w2 ⟨rfl,hb2⟩;have hB2:=bstep hB1 hb2;have hss2:=hb2.size;have y0:=rowL x0 hb2;have y1:=rowL x1 hb2;have y2:=rowL x2 hb2;obtain⟨ya,-⟩:=box1 y0;obtain⟨yb0,yb1,yb2,yb3,yb4,yb5,yb6,yb7⟩:=box8 y1) | (go_at_call 26;refine(HTB.out _ hB2).mono ?_;rintro e w3 ⟨rfl,hb3⟩;have hB3:=bstep hB2 hb3;have hss3:=hb3.size;have z0:=rowL y0 hb3;have z1:=rowL y1 hb3;have z2:=rowL y2 hb3;obtain⟨za,-⟩:=box1 z0;obtain⟨zb0,zb1,zb2,zb3,zb4,zb5,zb6,zb7⟩:=box8 z1) | (go_at_call 53;refine(sSame (some ⟨g,0,none⟩) n c T _ (hT.tl.later (hB3)) (by omega) HF.out).mono ?_;rintro e w9 ⟨a8,c8,rfl,hL8,hb8⟩;have s2:=rowL z2 hb8;obtain⟨z2_,f2_⟩:=box1 s2))
  refine bodyPost_ret (results_cell_tmp Tryz.results18 _ _ (w.heap.size+1+1) 38 _ (0,0) _ rfl (row1 s2 _) Tryz.underlying38 rfl (by kernel_rfl)) rfl ?_;rw [HA.out];exact ans_same hB3 hL8 hb8 (by omega) (by omega) _
 have hj:=(tabI_lt ht).1;have HTB:Hid (∀ W',Below w.heap.size w W'->Calls Tryz.prog 26 #[.agg #[.slice (some ⟨g,0,none⟩) n c],.string tb] W' (fun e w'=>e=.returned (.int .i64 j)/\Below W'.heap.size W' w')):=fun W' hW'=>by
  have:=sTable (some ⟨g,0,none⟩) n c T tb W' (hT.tl.later hW') hn;rwa [ht] at this
 have HTJ:Hid (tabI T tb n=some j):=ht;clear ht;obtain⟨g1,g2,cr,e0,e1,e2,hcr,hCt,hRt,hSt⟩:=hT j hj;have hNt:=okTd_nice (HOK.out j hj);obtain⟨ds,dn,dC,dr,dm,dR,hTj⟩:∃ s nc C r m R,T j=⟨s,nc,C,r,m,R⟩:=⟨_,_,_,_,_,_,rfl⟩;rw [hTj] at e0 e1 e2 hcr hCt hRt hSt hNt;simp only at e0 e1 e2 hcr hCt hRt hNt
 have HAJ:Hid (apA n T D=if k0=2 then inA T n ds dn dC dr dm dR n3 V else if k0=3 then upA T n ds dn dC dr dm dR col E n5 W n6 else if k0=4 then dlA T n ds dn dC dr dm dR W n6 else (tlL T n,slC dC dn m7 O n7 W n6)):=by
  show _=_
  rw [HAP.out,←HD.out];simp only
  rw [if_neg hk1,HTJ.out];simp only
  rw [hTj]
 have HN:Hid (Nice dn dr dm dR):=hNt;have hn1:=hNt.n1;have hr1:=hNt.r1;have hdsz:=hSt.s;simp only at hdsz
 clear hTj hNt;have hjn:(j:Int)<n:=by omega
 have hj0:(0:Int)<=j:=by omega
 have hjm:¬(j:Int)<0:=by omega
 by_cases hk2:k0=2
 ·
  subst hk2;obtain⟨h3a,h3b,h3c⟩:=rest2 HOS.out (by rw [←HD.out]);rw [←HD.out] at h3a h3b h3c;simp only at h3a h3b h3c
  obtain⟨A1,cd1,hA1⟩:∃ A cd,inA T n ds dn dC dr dm dR n3 V=(A,cd):=⟨_,_,rfl⟩;have HA:Hid (apA n T D=(A1,cd1)):=by show _=_;rw [HAJ.out];simp [hA1]
  have HCR:Hid (∀ W',Below w.heap.size w W'->Calls Tryz.prog 54 #[.agg #[.slice (some ⟨g,0,none⟩) n c],.agg #[.string ds,.slice (some ⟨g1,0,none⟩) dn dn,.slice (some ⟨g2,0,none⟩) dr cr],.agg #[.int .i64 2,.string tb,.slice a2 n2 c2,.slice a3 n3 c3,.string col,.slice a5 n5 c5,.slice a6 n6 c6,.slice a7 n7 c7]] W' (Ans W' A1 cd1)):=fun W' hW'=>by
   have:=sInsert (some ⟨g,0,none⟩) n c T ds dn dC dr dm dR (some ⟨g1,0,none⟩) dn g2 0 cr 2 tb a2 n2 c2 a3 n3 c3 col a5 n5 c5 a6 n6 c6 a7 n7 c7 V W' (hT.tl.later hW') (hCt.later hW') (hRt.later hW') (hS.va.later hW') (by omega) HF.out HN.out hcr hdsz (by omega) h3c;rwa [hA1] at this
  clear hA1;go_enter Tryz.func18,Tryz.ntmps18
  go_wp2_with (first | (go_at_call 50;refine(HDB.out).mono ?_;rintro e w1 ⟨rfl,hb1⟩;have hB1:=bstep hbU hb1;have hss1:=hb1.size;have x0:=rowL hq0 hb1;have x1:=rowL hq1 hb1;have x2:=rowL hq2 hb1;obtain⟨xa,-⟩:=box1 x0;obtain⟨xb0,xb1,xb2,xb3,xb4,xb5,xb6,xb7⟩:=box8 x1) | (go_at_call 51;refine(HST.out _ hB1).mono ?_;rintro e w2 ⟨rfl,hb2⟩;have hB2:=bstep hB1 hb2;have hss2:=hb2.size;have y0:=rowL x0 hb2;have y1:=rowL x1 hb2;have y2:=rowL x2 hb2;obtain⟨ya,-⟩:=box1 y0;obtain⟨yb0,yb1,yb2,yb3,yb4,yb5,yb6,yb7⟩:=box8 y1) | (go_at_call 26;refine(HTB.out _ hB2).mono ?_;rintro e w3 ⟨rfl,hb3⟩;have hB3:=bstep hB2 hb3;have hss3:=hb3.size;have z0:=rowL y0 hb3;have z1:=rowL y1 hb3;have z2:=rowL y2 hb3;obtain⟨za,-⟩:=box1 z0;obtain⟨zb0,zb1,zb2,zb3,zb4,zb5,zb6,zb7⟩:=box8 z1;have f0:=keepB hB3 e0;have f1:=keepB hB3 e1;have f2:=keepB hB3 e2;have v0:=rowL z0 (bal w3 (.cells #[.string ds,.slice (some ⟨g1,0,none⟩) dn dn,.slice (some ⟨g2,0,none⟩) dr cr] 62));have v1:=rowL z1 (bal w3 (.cells #[.string ds,.slice (some ⟨g1,0,none⟩) dn dn,.slice (some ⟨g2,0,none⟩) dr cr] 62));have v2:=rowL z2 (bal w3 (.cells #[.string ds,.slice (some ⟨g1,0,none⟩) dn dn,.slice (some ⟨g2,0,none⟩) dr cr] 62));obtain⟨va,-⟩:=box1 v0;obtain⟨vb0,vb1,vb2,vb3,vb4,vb5,vb6,vb7⟩:=box8 v1;have vt:=heap_alloc_new w3 (.cells #[.string ds,.slice (some ⟨g1,0,none⟩) dn dn,.slice (some ⟨g2,0,none⟩) dr cr] 62);obtain⟨vt0,vt1,vt2,-⟩:=box3 vt) | (go_at_call 54;refine(HCR.out _ (bstep hB3 (bal _ _))).mono ?_;rintro e w9 ⟨a8,c8,rfl,hL8,hb8⟩;have s2:=rowL v2 hb8;obtain⟨z2_,f2_⟩:=box1 s2))
  refine bodyPost_ret (results_cell_tmp Tryz.results18 _ _ (w.heap.size+1+1) 38 _ (0,0) _ rfl (row1 s2 _) Tryz.underlying38 rfl (by kernel_rfl)) rfl ?_;rw [HA.out];exact ans_with (bstep hB3 (bal _ _)) hL8 hb8 (by omega) (by rw [World.size_alloc];omega) _
 have nk2:(k0 == 2)=false:=by simpa using hk2
 by_cases hk3:k0=3
 ·
  subst hk3;obtain⟨h3a,h3b⟩:=rest3 HOS.out (by rw [←HD.out]);rw [←HD.out] at h3a h3b;simp only at h3a h3b
  obtain⟨A1,cd1,hA1⟩:∃ A cd,upA T n ds dn dC dr dm dR col E n5 W n6=(A,cd):=⟨_,_,rfl⟩;have HA:Hid (apA n T D=(A1,cd1)):=by show _=_;rw [HAJ.out];simp [hA1]
  have HCR:Hid (∀ W',Below w.heap.size w W'->Calls Tryz.prog 55 #[.agg #[.slice (some ⟨g,0,none⟩) n c],.agg #[.string ds,.slice (some ⟨g1,0,none⟩) dn dn,.slice (some ⟨g2,0,none⟩) dr cr],.agg #[.int .i64 3,.string tb,.slice a2 n2 c2,.slice a3 n3 c3,.string col,.slice a5 n5 c5,.slice a6 n6 c6,.slice a7 n7 c7]] W' (Ans W' A1 cd1)):=fun W' hW'=>by
   have:=sUpdate (some ⟨g,0,none⟩) n c T ds dn dC dr dm dR (some ⟨g1,0,none⟩) dn (some ⟨g2,0,none⟩) cr 3 tb a2 n2 c2 a3 n3 c3 col a5 n5 c5 a6 n6 c6 a7 n7 c7 E W W' (hT.tl.later hW') (hCt.later hW') (hRt.later hW') (hS.ex.later hW') (hS.wh.later hW') (by omega) HF.out HN.out hdsz h3a h3b;rwa [hA1] at this
  clear hA1;go_enter Tryz.func18,Tryz.ntmps18
  go_wp2_with (first | (go_at_call 50;refine(HDB.out).mono ?_;rintro e w1 ⟨rfl,hb1⟩;have hB1:=bstep hbU hb1;have hss1:=hb1.size;have x0:=rowL hq0 hb1;have x1:=rowL hq1 hb1;have x2:=rowL hq2 hb1;obtain⟨xa,-⟩:=box1 x0;obtain⟨xb0,xb1,xb2,xb3,xb4,xb5,xb6,xb7⟩:=box8 x1) | (go_at_call 51;refine(HST.out _ hB1).mono ?_;rintro e w2 ⟨rfl,hb2⟩;have hB2:=bstep hB1 hb2;have hss2:=hb2.size;have y0:=rowL x0 hb2;have y1:=rowL x1 hb2;have y2:=rowL x2 hb2;obtain⟨ya,-⟩:=box1 y0;obtain⟨yb0,yb1,yb2,yb3,yb4,yb5,yb6,yb7⟩:=box8 y1) | (go_at_call 26;refine(HTB.out _ hB2).mono ?_;rintro e w3 ⟨rfl,hb3⟩;have hB3:=bstep hB2 hb3;have hss3:=hb3.size;have z0:=rowL y0 hb3;have z1:=rowL y1 hb3;have z2:=rowL y2 hb3;obtain⟨za,-⟩:=box1 z0;obtain⟨zb0,zb1,zb2,zb3,zb4,zb5,zb6,zb7⟩:=box8 z1;have f0:=keepB hB3 e0;have f1:=keepB hB3 e1;have f2:=keepB hB3 e2;have v0:=rowL z0 (bal w3 (.cells #[.string ds,.slice (some ⟨g1,0,none⟩) dn dn,.slice (some ⟨g2,0,none⟩) dr cr] 62));have v1:=rowL z1 (bal w3 (.cells #[.string ds,.slice (some ⟨g1,0,none⟩) dn dn,.slice (some ⟨g2,0,none⟩) dr cr] 62));have v2:=rowL z2 (bal w3 (.cells #[.string ds,.slice (some ⟨g1,0,none⟩) dn dn,.slice (some ⟨g2,0,none⟩) dr cr] 62));obtain⟨va,-⟩:=box1 v0;obtain⟨vb0,vb1,vb2,vb3,vb4,vb5,vb6,vb7⟩:=box8 v1;have vt:=heap_alloc_new w3 (.cells #[.string ds,.slice (some ⟨g1,0,none⟩) dn dn,.slice (some ⟨g2,0,none⟩) dr cr] 62);obtain⟨vt0,vt1,vt2,-⟩:=box3 vt) | (go_at_call 55;refine(HCR.out _ (bstep hB3 (bal _ _))).mono ?_;rintro e w9 ⟨a8,c8,rfl,hL8,hb8⟩;have s2:=rowL v2 hb8;obtain⟨z2_,f2_⟩:=box1 s2))
  refine bodyPost_ret (results_cell_tmp Tryz.results18 _ _ (w.heap.size+1+1) 38 _ (0,0) _ rfl (row1 s2 _) Tryz.underlying38 rfl (by kernel_rfl)) rfl ?_;rw [HA.out];exact ans_with (bstep hB3 (bal _ _)) hL8 hb8 (by omega) (by rw [World.size_alloc];omega) _
 have nk3:(k0 == 3)=false:=by simpa using hk3
 by_cases hk4:k0=4
 ·
  subst hk4;have h3a:=rest4 HOS.out (by rw [←HD.out]);rw [←HD.out] at h3a;simp only at h3a
  obtain⟨A1,cd1,hA1⟩:∃ A cd,dlA T n ds dn dC dr dm dR W n6=(A,cd):=⟨_,_,rfl⟩;have HA:Hid (apA n T D=(A1,cd1)):=by show _=_;rw [HAJ.out];simp [hA1]
  have HCR:Hid (∀ W',Below w.heap.size w W'->Calls Tryz.prog 56 #[.agg #[.slice (some ⟨g,0,none⟩) n c],.agg #[.string ds,.slice (some ⟨g1,0,none⟩) dn dn,.slice (some ⟨g2,0,none⟩) dr cr],.agg #[.int .i64 4,.string tb,.slice a2 n2 c2,.slice a3 n3 c3,.string col,.slice a5 n5 c5,.slice a6 n6 c6,.slice a7 n7 c7]] W' (Ans W' A1 cd1)):=fun W' hW'=>by
   have:=sDelete (some ⟨g,0,none⟩) n c T ds dn dC dr dm dR (some ⟨g1,0,none⟩) dn (some ⟨g2,0,none⟩) cr 4 tb a2 n2 c2 a3 n3 c3 col a5 n5 c5 a6 n6 c6 a7 n7 c7 W W' (hT.tl.later hW') (hCt.later hW') (hRt.later hW') (hS.wh.later hW') (by omega) HF.out HN.out hdsz h3a;rwa [hA1] at this
  clear hA1;go_enter Tryz.func18,Tryz.ntmps18
  go_wp2_with (first | (go_at_call 50;refine(HDB.out).mono ?_;rintro e w1 ⟨rfl,hb1⟩;have hB1:=bstep hbU hb1;have hss1:=hb1.size;have x0:=rowL hq0 hb1;have x1:=rowL hq1 hb1;have x2:=rowL hq2 hb1;obtain⟨xa,-⟩:=box1 x0;obtain⟨xb0,xb1,xb2,xb3,xb4,xb5,xb6,xb7⟩:=box8 x1) | (go_at_call 51;refine(HST.out _ hB1).mono ?_;rintro e w2 ⟨rfl,hb2⟩;have hB2:=bstep hB1 hb2;have hss2:=hb2.size;have y0:=rowL x0 hb2;have y1:=rowL x1 hb2;have y2:=rowL x2 hb2;obtain⟨ya,-⟩:=box1 y0;obtain⟨yb0,yb1,yb2,yb3,yb4,yb5,yb6,yb7⟩:=box8 y1) | (go_at_call 26;refine(HTB.out _ hB2).mono ?_;rintro e w3 ⟨rfl,hb3⟩;have hB3:=bstep hB2 hb3;have hss3:=hb3.size;have z0:=rowL y0 hb3;have z1:=rowL y1 hb3;have z2:=rowL y2 hb3;obtain⟨za,-⟩:=box1 z0;obtain⟨zb0,zb1,zb2,zb3,zb4,zb5,zb6,zb7⟩:=box8 z1;have f0:=keepB hB3 e0;have f1:=keepB hB3 e1;have f2:=keepB hB3 e2;have v0:=rowL z0 (bal w3 (.cells #[.string ds,.slice (some ⟨g1,0,none⟩) dn dn,.slice (some ⟨g2,0,none⟩) dr cr] 62));have v1:=rowL z1 (bal w3 (.cells #[.string ds,.slice (some ⟨g1,0,none⟩) dn dn,.slice (some ⟨g2,0,none⟩) dr cr] 62));have v2:=rowL z2 (bal w3 (.cells #[.string ds,.slice (some ⟨g1,0,none⟩) dn dn,.slice (some ⟨g2,0,none⟩) dr cr] 62));obtain⟨va,-⟩:=box1 v0;obtain⟨vb0,vb1,vb2,vb3,vb4,vb5,vb6,vb7⟩:=box8 v1;have vt:=heap_alloc_new w3 (.cells #[.string ds,.slice (some ⟨g1,0,none⟩) dn dn,.slice (some ⟨g2,0,none⟩) dr cr] 62);obtain⟨vt0,vt1,vt2,-⟩:=box3 vt) | (go_at_call 56;refine(HCR.out _ (bstep hB3 (bal _ _))).mono ?_;rintro e w9 ⟨a8,c8,rfl,hL8,hb8⟩;have s2:=rowL v2 hb8;obtain⟨z2_,f2_⟩:=box1 s2))
  refine bodyPost_ret (results_cell_tmp Tryz.results18 _ _ (w.heap.size+1+1) 38 _ (0,0) _ rfl (row1 s2 _) Tryz.underlying38 rfl (by kernel_rfl)) rfl ?_;rw [HA.out];exact ans_with (bstep hB3 (bal _ _)) hL8 hb8 (by omega) (by rw [World.size_alloc];omega) _
 have nk4:(k0 == 4)=false:=by simpa using hk4
 have hk5:k0=5:=by
  have:=rest_k HOS.out;rw [←HD.out] at this;simp only at this
  omega
 subst hk5;obtain⟨h7a,h7b,h7c,h7d⟩:=rest5 HOS.out (by rw [←HD.out]);rw [←HD.out] at h7a h7b h7c h7d;simp only at h7a h7b h7c h7d
 have HEX:Hid (∀ j,j<n7->okExp (O j) (m7 j)=true):=h7c;have HA:Hid (apA n T D=(tlL T n,slC dC dn m7 O n7 W n6)):=by show _=_;rw [HAJ.out,if_neg hk2,if_neg hk3,if_neg hk4]
 have HCW:Hid (∀ W',Below w.heap.size w W'->Calls Tryz.prog 58 #[.slice (some ⟨g1,0,none⟩) dn dn,.slice a6 n6 c6] W' (fun e w'=>e=.returned (.int .i64 (cwR dC dn W n6))/\Below W'.heap.size W' w')):=fun W' hW'=>sCheckW _ dn dn dC a6 n6 c6 W W' (hCt.later hW') (hS.wh.later hW') hn1 h7d;clear h7c h7d hk1 hk2 hk3 hk4;go_enter Tryz.func18,Tryz.ntmps18
 go_wp2_with (first | (go_at_call 50;refine(HDB.out).mono ?_;rintro e w1 ⟨rfl,hb1⟩;have hB1:=bstep hbU hb1;have hss1:=hb1.size;have x0:=rowL hq0 hb1;have x1:=rowL hq1 hb1;have x2:=rowL hq2 hb1;obtain⟨xa,-⟩:=box1 x0;obtain⟨xb0,xb1,xb2,xb3,xb4,xb5,xb6,xb7⟩:=box8 x1) | (go_at_call 51;refine(HST.out _ hB1).mono ?_;rintro e w2 ⟨rfl,hb2⟩;have hB2:=bstep hB1 hb2;have hss2:=hb2.size;have y0:=rowL x0 hb2;have y1:=rowL x1 hb2;have y2:=rowL x2 hb2;obtain⟨ya,-⟩:=box1 y0;obtain⟨yb0,yb1,yb2,yb3,yb4,yb5,yb6,yb7⟩:=box8 y1) | (go_at_call 26;refine(HTB.out _ hB2).mono ?_;rintro e w3 ⟨rfl,hb3⟩;have hB3:=bstep hB2 hb3;have hss3:=hb3.size;have z0:=rowL y0 hb3;have z1:=rowL y1 hb3;have z2:=rowL y2 hb3;obtain⟨za,-⟩:=box1 z0;obtain⟨zb0,zb1,zb2,zb3,zb4,zb5,zb6,zb7⟩:=box8 z1;have f0:=keepB hB3 e0;have f1:=keepB hB3 e1;have f2:=keepB hB3 e2;have v0:=rowL z0 (bal w3 (.cells #[.string ds,.slice (some ⟨g1,0,none⟩) dn dn,.slice (some ⟨g2,0,none⟩) dr cr] 62));have v1:=rowL z1 (bal w3 (.cells #[.string ds,.slice (some ⟨g1,0,none⟩) dn dn,.slice (some ⟨g2,0,none⟩) dr cr] 62));have v2:=rowL z2 (bal w3 (.cells #[.string ds,.slice (some ⟨g1,0,none⟩) dn dn,.slice (some ⟨g2,0,none⟩) dr cr] 62));obtain⟨va,-⟩:=box1 v0;obtain⟨vb0,vb1,vb2,vb3,vb4,vb5,vb6,vb7⟩:=box8 v1;have vt:=heap_alloc_new w3 (.cells #[.string ds,.slice (some ⟨g1,0,none⟩) dn dn,.slice (some ⟨g2,0,none⟩) dr cr] 62);obtain⟨vt0,vt1,vt2,-⟩:=box3 vt))
 have hB4:=bstep hB3 (bal w3 (.cells #[.string ds,.slice (some ⟨g1,0,none⟩) dn dn,.slice (some ⟨g2,0,none⟩) dr cr] 62));have hs4:(w3.alloc (.cells #[.string ds,.slice (some ⟨g1,0,none⟩) dn dn,.slice (some ⟨g2,0,none⟩) dr cr] 62)).heap.size=w3.heap.size+1:=World.size_alloc _ _;generalize w3.alloc (.cells #[.string ds,.slice (some ⟨g1,0,none⟩) dn dn,.slice (some ⟨g2,0,none⟩) dr cr] 62)=w4 at hB4 v0 v1 v2 vt hs4 ⊢;go_loopw [9,10,11,71] (fun _ _ _ i wr=>∃ k:Nat,k<=n7/\i=.int .i64 k/\soC dC dn m7 O k=0/\Below w4.heap.size w4 wr) (fun _ _ _ i _=>n7 - (intOf i).toNat)
 case atStart=>exact⟨0,Nat.zero_le _,rfl,rfl,Below.refl _ _⟩
 case round=>
  obtain⟨k,hk,rfl,hso,hbr⟩:=hrel;have HSO:Hid (soC dC dn m7 O k=0):=hso;clear hso;have hbW:=bstep hB4 hbr;have hsr:=hbr.size;have q0:=rowL v0 hbr;have q1:=rowL v1 hbr;have q2:=rowL v2 hbr;have qt:=rowL vt hbr;obtain⟨qa,-⟩:=box1 q0;obtain⟨-,-,-,-,-,-,qw,qo⟩:=box8 q1;obtain⟨qt0,qt1,qt2,-⟩:=box3 qt;by_cases hlt:k<n7
  ·
   obtain⟨bO,offO,ai,ci,rfl,d1,hIO,hmO⟩:=hS.ou.later hbW k hlt;simp only at d1 hIO hmO
   have hkn:(k:Int)<n7:=by omega
   obtain⟨hx1,hx2,hx3⟩:=okExp_out (HEX.out k hlt);obtain⟨ek,ec,hck⟩:∃ ek ec,ckR dC dn (O k) (m7 k)=(ek,ec):=⟨_,_,rfl⟩;have HCK:Calls Tryz.prog 57 #[.slice (some ⟨g1,0,none⟩) dn dn,.slice ai (m7 k) ci] wr (fun e w'=>e=.returned (.tuple #[.int .i64 ek,.int .i64 ec])/\Below wr.heap.size wr w'):=by
    have:=sCheck (some ⟨g1,0,none⟩) dn dn dC ai (m7 k) ci (O k) wr (hCt.later hbW) hIO hn1 hx1 hx3;rwa [hck] at this
   have HNX:Hid (soC dC dn m7 O (k+1)=ec):=by show _=_;rw [soC,if_pos HSO.out,hck]
   clear hck hx3;by_cases he:ec=0
   ·
    subst he;go_wp2_with (go_at_call 57;refine HCK.mono ?_;rintro e w5 ⟨rfl,hb5⟩)
    go_roundw
    case rel=>exact⟨k+1,by omega,by go_num,HNX.out,bstep hbr hb5⟩
    case measure=>simp [intOf];omega
   ·
    have n0:(ec != 0)=true:=by simpa using he
    have HA2:Hid (apA n T D=(tlL T n,ec)):=by
     show _=_
     have h1:soC dC dn m7 O n7=ec:=by rw [soC_stop (k:=k+1) (by rw [HNX.out];exact he) n7 (by omega),HNX.out]
     rw [HA.out];unfold slC;rw [h1,if_neg he]
    clear he;go_wp2_with (first | (go_at_call 53;have _h:=hb5;refine(sSame (some ⟨g,0,none⟩) n c T _ (hT.tl.later (bstep hbW hb5)) (by omega) HF.out).mono ?_;rintro e w9 ⟨a8,c8,rfl,hL8,hb8⟩;have s2:=rowL x2_ hb8;obtain⟨z2_,f2_⟩:=box1 s2) | (go_at_call 57;refine HCK.mono ?_;rintro e w5 ⟨rfl,hb5⟩;have hss5:=hb5.size;have x0_:=rowL q0 hb5;have x2_:=rowL q2 hb5;obtain⟨xa_,-⟩:=box1 x0_))
    refine bodyPost_ret (results_cell_tmp Tryz.results18 _ _ (w.heap.size+1+1) 38 _ (0,0) _ rfl (row1 s2 _) Tryz.underlying38 rfl (by kernel_rfl)) rfl ?_;rw [HA2.out];exact ans_same (bstep hbW hb5) hL8 hb8 (by omega) (by omega) _
  ·
   obtain rfl:k=n7:=by omega
   have HA2:Hid (apA n T D=(tlL T n,cwR dC dn W n6)):=by show _=_;rw [HA.out];unfold slC;rw [if_pos HSO.out]
   have hbv:=bstep hbW (bdrV wr);have hrr:wr.drew.heap[w.heap.size+1+1]?=some (.cells #[.slice none 0 0] 38 (0,0)):=q2;have hsv:w.heap.size+3<=wr.drew.heap.size:=by show _<=wr.heap.size;omega
   go_upto_region 23 with (fail)
   refine wp_region_held_drew (S:=fun x=>x.heap[w.heap.size]?=some (.cells #[.slice (some ⟨g,0,none⟩) n c] 38 (0,0))/\x.heap[w.heap.size+1]?=some (.cells #[.int .i64 5,.string tb,.slice a2 n2 c2,.slice a3 n3 c3,.string col,.slice a5 n5 c5,.slice a6 n6 c6,.slice a7 k c7] 45 (0,0))/\x.heap[w3.heap.size]?=some (.cells #[.string ds,.slice (some ⟨g1,0,none⟩) dn dn,.slice (some ⟨g2,0,none⟩) dr cr] 62 (0,0))) (by kernel_rfl) (⟨q0,q1,qt⟩) (fun jH=>?_);generalize wr.drew=v at jH hbv hrr hsv ⊢;refine tk 0 (⟨some 88,.load 38 (.tmp 2),38,"l5_replay.go:373",#[],none⟩:Oper) (fun x jS=>by obtain⟨h0_,h1_,h2_⟩:=jS;obtain⟨i0_,-⟩:=box1 h0_;obtain⟨-,-,-,-,-,-,i6_,-⟩:=box8 h1_;obtain⟨-,i7_,-⟩:=box3 h2_;go_simp<;>rfl) jH ?_
   try simp only [zS]
   refine tk 2 (⟨some 90,.fieldAddr 62 (.tmp 7) 1,0,"l5_replay.go:373",#[],none⟩:Oper) (fun x jS=>by go_simp<;>rfl) jH ?_
   try simp only [zS]
   refine tk 3 (⟨some 91,.load 40 (.tmp 90),40,"l5_replay.go:373",#[⟨2,.data⟩],none⟩:Oper) (fun x jS=>by obtain⟨h0_,h1_,h2_⟩:=jS;obtain⟨i0_,-⟩:=box1 h0_;obtain⟨-,-,-,-,-,-,i6_,-⟩:=box8 h1_;obtain⟨-,i7_,-⟩:=box3 h2_;go_simp<;>rfl) jH ?_
   try simp only [zS]
   refine tk 4 (⟨some 92,.fieldAddr 45 (.tmp 3) 6,0,"l5_replay.go:373",#[],none⟩:Oper) (fun x jS=>by go_simp<;>rfl) jH ?_
   try simp only [zS]
   refine tk 5 (⟨some 93,.load 42 (.tmp 92),42,"l5_replay.go:373",#[⟨4,.data⟩],none⟩:Oper) (fun x jS=>by obtain⟨h0_,h1_,h2_⟩:=jS;obtain⟨i0_,-⟩:=box1 h0_;obtain⟨-,-,-,-,-,-,i6_,-⟩:=box8 h1_;obtain⟨-,i7_,-⟩:=box3 h2_;go_simp<;>rfl) jH ?_
   try simp only [zS]
   refine rd 1 (⟨some 89,.call ⟨.value (.func 53),#[.tmp 88],#[38]⟩,38,"l5_replay.go:373",#[⟨0,.data⟩],none⟩:Oper) (fun K hK=>?_);go_simp;refine(sSame (some ⟨g,0,none⟩) n c T _ (hT.tl.later hbv) (by omega) HF.out).mono ?_;rintro e v ⟨a8,c8,rfl,hL8,hb8⟩;refine hK.out _ _ (⟨rowL jH.1 hb8,rowL jH.2.1 hb8,rowL jH.2.2 hb8⟩) (fun jH=>?_);clear hK K;try simp only [zS]
   replace hL8:=hL8.wide (Y:=fun b=>w.heap.size+3<=b) (fun b hb _=>Nat.le_trans hsv hb);replace hrr:=rowL hrr hb8;replace hbv:=bstep hbv hb8;replace hsv:=Nat.le_trans hsv (hb8).size;refine rd 6 (⟨some 94,.call ⟨.value (.func 58),#[.tmp 91,.tmp 93],#[40,42]⟩,3,"l5_replay.go:373",#[⟨3,.data⟩,⟨5,.data⟩,⟨1,.chain⟩],none⟩:Oper) (fun K hK=>?_);go_simp;refine(HCW.out _ hbv).mono ?_;rintro e v ⟨rfl,hb7⟩;refine hK.out _ _ (⟨rowL jH.1 hb7,rowL jH.2.1 hb7,rowL jH.2.2 hb7⟩) (fun jH=>?_);clear hK K;try simp only [zS]
   replace hL8:=hL8.later hb7;replace hrr:=rowL hrr hb7;replace hbv:=bstep hbv hb7;replace hsv:=Nat.le_trans hsv (hb7).size;refine rd 7 (⟨none,.store 38 (.tmp 4) (.tmp 89),0,"l5_replay.go:373",#[⟨1,.data⟩,⟨6,.chain⟩,⟨0,.phase⟩,⟨1,.phase⟩,⟨2,.textOnly .lateStores⟩,⟨3,.textOnly .lateStores⟩,⟨4,.textOnly .lateStores⟩,⟨5,.textOnly .lateStores⟩,⟨6,.textOnly .lateStoresUnsure⟩],none⟩:Oper) (fun K hK=>?_);obtain⟨m9,f9⟩:=box1 hrr;go_simp;refine hK.out _ _ ⟨rowO jH.1 (by omega),rowO jH.2.1 (by omega),rowO jH.2.2 (by omega)⟩ (fun jH=>?_);clear hK K;try simp only [zS]
   refine tk 8 (⟨some 5,.assign (.tmp 94),3,"l5_replay.go:373",#[⟨6,.data⟩,⟨7,.chain⟩,⟨0,.phase⟩,⟨1,.phase⟩,⟨2,.phase⟩,⟨3,.phase⟩,⟨4,.phase⟩,⟨5,.phase⟩,⟨6,.phase⟩,⟨7,.phase⟩],none⟩:Oper) (fun x jS=>by go_simp<;>rfl) jH ?_
   try simp only [zS]
   refine wpAnyH_done (by kernel_rfl) ?_ _;go_wp2;refine bodyPost_ret (results_cell_tmp Tryz.results18 _ _ (w.heap.size+1+1) 38 _ (0,0) _ rfl (row1 hrr _) Tryz.underlying38 rfl (by kernel_rfl)) rfl ?_;rw [HA2.out];exact⟨a8,c8,by rw [tlL_len];rfl,((hL8.set (B:=w.heap.size+1+1) (by omega)).wide (fun b hb _=>by omega)).imp (fun _ h=>h.list),bset hbv (by omega)⟩
theorem row3t{W:World}{R:Nat}{x0 x1 x2:Value}{t:TypeId}(h:W.heap[R]?=some (.cells #[x0,x1,x2] t (0,0)))(v0 v1 v2:Value):(((W.setCell ⟨R,0,none⟩ v0).setCell ⟨R,1,none⟩ v1).setCell ⟨R,2,none⟩ v2).heap[R]?=some (.cells #[v0,v1,v2] t (0,0)):=
 heap_setCell_same _ _ 2 _ _ v2 (heap_setCell_same _ _ 1 _ _ v1 (heap_setCell_same _ _ 0 _ _ v0 h))
end Go.Proofs.YtgeiamgeclbiaaaGreatDoor
