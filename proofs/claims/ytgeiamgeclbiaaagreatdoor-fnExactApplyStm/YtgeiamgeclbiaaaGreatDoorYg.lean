import Derived.Test.YtgeiamgeclbiaaaGreatDoorYf
namespace Go.Proofs.YtgeiamgeclbiaaaGreatDoor
open Go.RowKit Go.Maps Go.WideMaps
set_option maxRecDepth 20000
set_option maxHeartbeats 16000000
abbrev qYg0:Oper:=⟨some 29,.call ⟨.value (.func 8),#[.tmp 28],#[24]⟩,38,"exact.go:1846",#[⟨0,.data⟩],none⟩
abbrev qYg1:Oper:=⟨some 6,.alloc 38,0,"exact.go:1846",#[],none⟩
abbrev qYg2:Oper:=⟨some 31,.call ⟨.value (.func 9),#[.tmp 30],#[30]⟩,45,"exact.go:1846",#[⟨2,.data⟩,⟨1,.chain⟩],none⟩
abbrev qYg3:Oper:=⟨some 32,.call ⟨.value (.func 18),#[.tmp 29,.tmp 31],#[38,45]⟩,54,"exact.go:1846",#[⟨1,.data⟩,⟨3,.data⟩,⟨3,.chain⟩],none⟩
abbrev qYg4:Oper:=⟨some 27,.move (.tmp 32),54,"exact.go:1846",#[⟨4,.data⟩],none⟩
abbrev qYg5:Oper:=⟨some 33,.extract (.tmp 27) 0,38,"exact.go:1846",#[⟨5,.data⟩],none⟩
abbrev qYg6:Oper:=⟨some 34,.extract (.tmp 27) 1,3,"exact.go:1846",#[⟨5,.data⟩,⟨9,.gcOnly .lateStores⟩],none⟩
abbrev qYg7:Oper:=⟨none,.store 38 (.tmp 6) (.tmp 33),0,"exact.go:1846",#[⟨8,.data⟩,⟨6,.data⟩,⟨4,.chain⟩,⟨0,.phase⟩,⟨1,.phase⟩,⟨2,.phase⟩,⟨3,.phase⟩,⟨4,.phase⟩,⟨5,.phase⟩,⟨6,.phase⟩,⟨7,.textOnly .lateStores⟩,⟨8,.phase⟩],none⟩
abbrev qYg8:Oper:=⟨some 7,.assign (.tmp 34),3,"exact.go:1846",#[⟨7,.data⟩,⟨9,.chain⟩,⟨0,.phase⟩,⟨1,.phase⟩,⟨2,.phase⟩,⟨3,.phase⟩,⟨4,.phase⟩,⟨5,.phase⟩,⟨6,.phase⟩,⟨7,.phase⟩,⟨8,.phase⟩,⟨9,.phase⟩],none⟩
abbrev qYg9:Oper:=⟨some 96,.call ⟨.value (.func 8),#[.tmp 95],#[24]⟩,38,"exact.go:1875",#[⟨0,.data⟩],none⟩
abbrev qYg10:Oper:=⟨some 15,.alloc 38,0,"exact.go:1875",#[],none⟩
abbrev qYg11:Oper:=⟨some 98,.call ⟨.value (.func 9),#[.tmp 97],#[30]⟩,45,"exact.go:1875",#[⟨2,.data⟩,⟨1,.chain⟩],none⟩
abbrev qYg12:Oper:=⟨some 99,.call ⟨.value (.func 19),#[.tmp 96,.tmp 98],#[38,45]⟩,54,"exact.go:1875",#[⟨1,.data⟩,⟨3,.data⟩,⟨3,.chain⟩],none⟩
abbrev qYg13:Oper:=⟨some 94,.move (.tmp 99),54,"exact.go:1875",#[⟨4,.data⟩],none⟩
abbrev qYg14:Oper:=⟨some 100,.extract (.tmp 94) 0,38,"exact.go:1875",#[⟨5,.data⟩],none⟩
abbrev qYg15:Oper:=⟨some 101,.extract (.tmp 94) 1,3,"exact.go:1875",#[⟨5,.data⟩,⟨9,.gcOnly .lateStores⟩],none⟩
abbrev qYg16:Oper:=⟨none,.store 38 (.tmp 15) (.tmp 100),0,"exact.go:1875",#[⟨8,.data⟩,⟨6,.data⟩,⟨4,.chain⟩,⟨0,.phase⟩,⟨1,.phase⟩,⟨2,.phase⟩,⟨3,.phase⟩,⟨4,.phase⟩,⟨5,.phase⟩,⟨6,.phase⟩,⟨7,.textOnly .lateStores⟩,⟨8,.phase⟩],none⟩
abbrev qYg17:Oper:=⟨some 16,.assign (.tmp 101),3,"exact.go:1875",#[⟨7,.data⟩,⟨9,.chain⟩,⟨0,.phase⟩,⟨1,.phase⟩,⟨2,.phase⟩,⟨3,.phase⟩,⟨4,.phase⟩,⟨5,.phase⟩,⟨6,.phase⟩,⟨7,.phase⟩,⟨8,.phase⟩,⟨9,.phase⟩],none⟩
theorem Liv.mk{lo hi:Nat}{w w':World}{P:World->Prop}(h:Liv (fun b=>b<lo) w P)(k:Mk lo hi w w'):Liv (fun b=>b<lo) w' P:=h.step fun _ _ hx hc=>(World.cell?_of_block (k.out _ (World.block_lt_of_cell? w _ hc) (Or.inl hx))).trans hc
theorem Liv.bel{lo B:Nat}{w w':World}{P:World->Prop}(h:Liv (fun b=>b<lo) w P)(k:Below B w w')(hB:lo<=B):Liv (fun b=>b<lo) w' P:=h.step fun _ _ hx hc=>(World.cell?_of_block (k.block _ (Nat.lt_of_lt_of_le hx hB))).trans hc
theorem DA.set{lo hi x i:Nat}{v:Value}{w:World}{a:Option Addr}{A:List Td}(h:DA lo hi w a A)(hx:x<lo∨hi<=x):DA lo hi (w.setCell ⟨x,i,none⟩ v) a A:=by
 rcases h with h | ⟨g,B,h1,h2,h3,h4,h5⟩
 · exact Or.inl h
 · exact Or.inr ⟨g,B,h1,h2.allN (BlkX.set x i w v) (fun hm=>by have:=h5 _ hm;have:=(h2.2 _ hm).1;omega),h3,h4,h5⟩
theorem cutG{F:World->Nat->Nat->Nat->Nat->Nat->Nat->Nat->Nat->Option Addr->Prop}{Q:Prop}(G:World->Nat->Nat->Nat->Nat->Nat->Nat->Nat->Nat->Option Addr->Prop)(main:(∀ v b c g x1 x2 x3 x4 x5 a,F v b c g x1 x2 x3 x4 x5 a->G v b c g x1 x2 x3 x4 x5 a)->Q)(rest:∀ v b c g x1 x2 x3 x4 x5 a,F v b c g x1 x2 x3 x4 x5 a->G v b c g x1 x2 x3 x4 x5 a):Q:=main rest
theorem lawAp(a:Option Addr)(n c:Nat)(T:Nat->Td)(d:St)(p:Sa)(w:World)(hX:TX w a n T)(hS:SX w d p)(hSp:SpT w)(hRg:∀ k,k<n->∀ i,i<(T k).r->∀ j,rg ((T k).R i j).m)(hRD:RgD d) :
 Calls Tryz.prog 4 #[.agg #[.slice a n c],.agg (cs8 d p)] w fun e w'=>e=.returned (.bool true)/\Below w.heap.size w w':=by
 have hbU:Below w.heap.size w ((w.alloc (.cells #[.slice a n c] 24)).alloc (.cells (cs8 d p) 30)):=bstep (bal _ _) (bal _ _);have hq0:((w.alloc (.cells #[.slice a n c] 24)).alloc (.cells (cs8 d p) 30)).heap[w.heap.size]?=some (.cells #[.slice a n c] 24 (0,0)):=rowL (heap_alloc_new w _) (bal _ _);have hq1:((w.alloc (.cells #[.slice a n c] 24)).alloc (.cells (cs8 d p) 30)).heap[w.heap.size+1]?=some (.cells (cs8 d p) 30 (0,0)):=by
  have q:=heap_alloc_new (w.alloc (.cells #[.slice a n c] 24)) (.cells (cs8 d p) 30);rw [World.size_alloc] at q;exact q
 obtain⟨k0_,-⟩:=box1 hq0;obtain⟨j0_,j1_,j2_,j3_,j4_,j5_,j6_,j7_⟩:=box8 hq1;have HZ:=szDb' a n c T _ (hX.later hbU);have HRG:Hid (∀ k,k<n->∀ i,i<(T k).r->∀ j,rg ((T k).R i j).m):=hRg;have HRD:Hid (RgD d):=hRD;clear hRg hRD;go_enter Tryz.func4,Tryz.ntmps4
 go_upto_region 3 with (go_at_call 5;refine HZ.mono ?_;rintro e w0 ⟨hb0,r,rfl,hr1,hr⟩;replace hb0':=bstep hbU hb0;have p0:=rowL hq0 hb0;have p1:=rowL hq1 hb0)
 by_cases hp:(0:Int)<=r
 rotate_left
 ·
  have hp2:r<0:=by omega
  go_wp2;go_ret
  exact⟨rfl,hb0'⟩
 have hp2:¬r<0:=by omega
 obtain⟨hn,hs3⟩:=hr hp;have hTL:=hX.small hs3;have HZ2:=szStm' d p w0 (hS.later hb0') r hp hr1;clear hs3 hr HZ;obtain⟨i0_,-⟩:=box1 p0;obtain⟨h0_,h1_,h2_,h3_,h4_,h5_,h6_,h7_⟩:=box8 p1;go_upto_region 6 with (go_at_call 6;refine HZ2.mono ?_;rintro e w1 ⟨hb1',r2,rfl,hr2⟩;have hb1:=bstep hb0' hb1';have r0:=rowL p0 hb1';have r1:=rowL p1 hb1')
 by_cases hp3:(0:Int)<=r2
 rotate_left
 ·
  have hp4:r2<0:=by omega
  go_wp2;go_ret
  exact⟨rfl,hb1⟩
 have hp4:¬r2<0:=by omega
 have hSM:=hS.small (hr2 hp3);have hAl:(apA n T d).1.length<=1000:=apA_len n T d;have HSP:Hid (∀ g q W,TN W g n T->SM W d q->d.n2<=q.c2->Calls Tryz.prog 18 #[.agg #[.slice (some ⟨g,0,none⟩) n n],.agg (cs8 d q)] W (Ans W (apA n T d).1 (apA n T d).2)):=fun g q W=>specAp n T d hn g q W;have HIM:Hid (∀ g q W,SpT W->TL W (some ⟨g,0,none⟩) n T->SM W d q->Calls Tryz.prog 19 #[.agg #[.slice (some ⟨g,0,none⟩) n n],.agg (cs8 d q)] W (ApD W (apA n T d).1 (apA n T d).2)):=fun g q W=>implAp n T d hn HRG.out HRD.out g q W;obtain⟨A,cd,hAA⟩:∃ A cd,apA n T d=(A,cd):=⟨_,_,rfl⟩;rw [hAA] at HSP HIM hAl;simp only at HSP HIM hAl
 clear hAA HZ2 hr2 p0 p1 hq0 hq1 k0_ j0_ j1_ j2_ j3_ j4_ j5_ j6_ j7_ i0_ h0_ h1_ h2_ h3_ h4_ h5_ h6_ h7_ HRG HRD;go_upto_region 8 with (fail)
 refine' cutG (F:=fun v bB cW gA x1 x2 x3 x4 x5 aW=>Below w1.heap.size w1 v/\v.heap[bB]?=some (.cells #[.slice aW A.length cW] 38 (0,0))/\Liv (fun b=>b<v.heap.size) v (fun u=>TL u aW A.length (fun i=>A.getD i _root_.Go.Proofs.YtgeiamgeclbiaaaGreatDoor.t0))/\w1.heap.size<=bB) _ ?main ?rest;case main=>
  intro H;refine wp_region_held_drew (S:=fun x=>Below w1.heap.size w1 x) (by kernel_rfl) (bdrV _) (fun jH=>?_);generalize w1.drew=v at jH ⊢;refine tk 0 (⟨some 28,.load 24 (.tmp 2),24,"exact.go:1846",#[],none⟩:Oper) (fun x jS=>by obtain⟨k0_,-⟩:=box1 (rowL r0 jS);obtain⟨j0_,j1_,j2_,j3_,j4_,j5_,j6_,j7_⟩:=box8 (rowL r1 jS);go_simp<;>rfl) jH ?_
  try simp only [zS]
  refine tk 2 (⟨some 30,.load 30 (.tmp 3),30,"exact.go:1846",#[],none⟩:Oper) (fun x jS=>by obtain⟨k0_,-⟩:=box1 (rowL r0 jS);obtain⟨j0_,j1_,j2_,j3_,j4_,j5_,j6_,j7_⟩:=box8 (rowL r1 jS);go_simp<;>rfl) jH ?_
  try simp only [zS]
  refine wpAnyH_ready (rs:=[1,8]) (by kernel_rfl) (by simp) ?_;refine(AllReadyH.cons (o:=qYg0) rfl (fun K hK=>?w1_c2) (AllReadyH.cons (o:=qYg1) rfl (fun K hK=>?w1_c1) AllReadyH.nil));case' w1_c2=>
   go_simp;refine(toDb' a n c T _ (hTL.later (bstep hb1 jH)) hn).mono ?_;rintro e v ⟨gA,rfl,hNA,-,hbX⟩;refine hK.out _ _ (bstep jH hbX) (fun jH=>?_);clear hK K;try simp only [zS]
   clear hbX;refine wpAnyH_ready (rs:=[3,8]) (by kernel_rfl) (by simp) ?_;refine(AllReadyH.cons (o:=qYg2) rfl (fun K hK=>?w1_c4) (AllReadyH.cons (o:=qYg1) rfl (fun K hK=>?w1_c3) AllReadyH.nil));case' w1_c4=>
    go_simp;refine(toStm' d p _ (hSM.later (bstep hb1 jH))).mono ?_;rintro e v ⟨x1,x2,x3,x4,x5,rfl,hMA,-,-,-,-,-,hbX⟩;refine hK.out _ _ (bstep jH hbX) (fun jH=>?_);clear hK K;try simp only [zS]
    replace hNA:=hNA.later hbX;clear hbX;refine wpAnyH_ready (rs:=[4,8]) (by kernel_rfl) (by simp) ?_;refine(AllReadyH.cons (o:=qYg3) rfl (fun K hK=>?w1_c6) (AllReadyH.cons (o:=qYg1) rfl (fun K hK=>?w1_c5) AllReadyH.nil));case' w1_c6=>
     go_simp;refine(HSP.out gA (cp d x1 x2 x3 x4 x5) _ hNA hMA (Nat.le_refl _)).mono ?_;rintro e v ⟨aW,cW,rfl,hLX,hbX⟩;refine hK.out _ _ (bstep jH hbX) (fun jH=>?_);clear hK K;try simp only [zS]
     have hLv:Liv (fun b=>b<v.heap.size) v (fun u=>TL u aW A.length (fun i=>A.getD i _root_.Go.Proofs.YtgeiamgeclbiaaaGreatDoor.t0)):=hLX.wide (fun b _ h=>h);clear hLX hNA hMA;clear hbX;refine tk 5 qYg4 (fun x jS=>by go_simp<;>rfl) jH ?_
     try simp only [zS]
     refine tk 6 qYg5 (fun x jS=>by go_simp<;>rfl) jH ?_
     try simp only [zS]
     refine tk 7 qYg6 (fun x jS=>by go_simp<;>rfl) jH ?_
     try simp only [zS]
     refine rd 8 qYg1 (fun K hK=>?_);have hqB:=heap_alloc_new v (.cells #[.slice none 0 0] 38);have hbX:=bal v (.cells #[.slice none 0 0] 38);have hsB:=jH.size;go_simp;refine hK.out _ _ (bstep jH hbX) (fun jH=>?_);clear hK K;try simp only [zS]
     replace hLv:Liv (fun b=>b≠v.heap.size) (v.alloc (.cells #[.slice none 0 0] 38)) (fun u=>TL u aW A.length (fun i=>A.getD i _root_.Go.Proofs.YtgeiamgeclbiaaaGreatDoor.t0)):=(hLv.later hbX).wide (fun b h _=>Nat.ne_of_lt h);clear hbX;generalize v.heap.size=bB at hqB hsB hLv ⊢;generalize v.alloc (.cells #[.slice none 0 0] 38)=v at hqB jH hLv ⊢;refine rd 9 qYg7 (fun K hK=>?_);obtain⟨m0_,mf_⟩:=box1 hqB;go_simp;refine hK.out _ _ (jH.setCell hsB _) (fun jH=>?_);clear hK K;try simp only [Act.put]
     replace hqB:=row1 hqB (.slice aW A.length cW);have hLv2:Liv (fun b=>b<(v.setCell ⟨bB,0,none⟩ (.slice aW A.length cW)).heap.size) (v.setCell ⟨bB,0,none⟩ (.slice aW A.length cW)) (fun u=>TL u aW A.length (fun i=>A.getD i _root_.Go.Proofs.YtgeiamgeclbiaaaGreatDoor.t0)):=(hLv.step fun a_ v_ hx hc=>(World.cell?_of_block (heap_setCell_other _ _ _ _ hx)).trans hc).wide (fun _ _ h=>h);clear hLv m0_ mf_;generalize v.setCell ⟨bB,0,none⟩ (.slice aW A.length cW)=v at hqB jH hLv2 ⊢;refine tk 10 qYg8 (fun x jS=>by go_simp<;>rfl) jH ?_
     try simp only [zS]
     refine wpAnyH_done (by kernel_rfl) ?_ _;exact H v bB cW gA x1 x2 x3 x4 x5 aW ⟨jH,hqB,hLv2,hsB⟩
    case' w1_c5=>
     have hqB:=heap_alloc_new v (.cells #[.slice none 0 0] 38);have hbX:=bal v (.cells #[.slice none 0 0] 38);have hsB:=jH.size;go_simp;refine hK.out _ _ (bstep jH hbX) (fun jH=>?_);clear hK K;try simp only [zS]
     replace hNA:=hNA.later hbX;replace hMA:=hMA.later hbX;clear hbX;generalize v.heap.size=bB at hqB hsB ⊢;generalize v.alloc (.cells #[.slice none 0 0] 38)=v at hqB jH hNA hMA ⊢;refine rd 4 qYg3 (fun K hK=>?_);go_simp;refine(HSP.out gA (cp d x1 x2 x3 x4 x5) _ hNA hMA (Nat.le_refl _)).mono ?_;rintro e v ⟨aW,cW,rfl,hLX,hbX⟩;refine hK.out _ _ (bstep jH hbX) (fun jH=>?_);clear hK K;try simp only [zS]
     have hLv:Liv (fun b=>b≠bB) v (fun u=>TL u aW A.length (fun i=>A.getD i _root_.Go.Proofs.YtgeiamgeclbiaaaGreatDoor.t0)):=hLX.wide (fun b h1 _ e=>by have:=(Array.getElem?_eq_some_iff.1 hqB).1;omega);clear hLX hNA hMA;replace hqB:=rowL hqB hbX;clear hbX;refine tk 5 qYg4 (fun x jS=>by go_simp<;>rfl) jH ?_
     try simp only [zS]
     refine tk 6 qYg5 (fun x jS=>by go_simp<;>rfl) jH ?_
     try simp only [zS]
     refine tk 7 qYg6 (fun x jS=>by go_simp<;>rfl) jH ?_
     try simp only [zS]
     refine rd 9 qYg7 (fun K hK=>?_);obtain⟨m0_,mf_⟩:=box1 hqB;go_simp;refine hK.out _ _ (jH.setCell hsB _) (fun jH=>?_);clear hK K;try simp only [Act.put]
     replace hqB:=row1 hqB (.slice aW A.length cW);have hLv2:Liv (fun b=>b<(v.setCell ⟨bB,0,none⟩ (.slice aW A.length cW)).heap.size) (v.setCell ⟨bB,0,none⟩ (.slice aW A.length cW)) (fun u=>TL u aW A.length (fun i=>A.getD i _root_.Go.Proofs.YtgeiamgeclbiaaaGreatDoor.t0)):=(hLv.step fun a_ v_ hx hc=>(World.cell?_of_block (heap_setCell_other _ _ _ _ hx)).trans hc).wide (fun _ _ h=>h);clear hLv m0_ mf_;generalize v.setCell ⟨bB,0,none⟩ (.slice aW A.length cW)=v at hqB jH hLv2 ⊢;refine tk 10 qYg8 (fun x jS=>by go_simp<;>rfl) jH ?_
     try simp only [zS]
     refine wpAnyH_done (by kernel_rfl) ?_ _;exact H v bB cW gA x1 x2 x3 x4 x5 aW ⟨jH,hqB,hLv2,hsB⟩
   case' w1_c3=>
    have hqB:=heap_alloc_new v (.cells #[.slice none 0 0] 38);have hbX:=bal v (.cells #[.slice none 0 0] 38);have hsB:=jH.size;go_simp;refine hK.out _ _ (bstep jH hbX) (fun jH=>?_);clear hK K;try simp only [zS]
    replace hNA:=hNA.later hbX;clear hbX;generalize v.heap.size=bB at hqB hsB ⊢;generalize v.alloc (.cells #[.slice none 0 0] 38)=v at hqB jH hNA ⊢;refine rd 3 qYg2 (fun K hK=>?_);go_simp;refine(toStm' d p _ (hSM.later (bstep hb1 jH))).mono ?_;rintro e v ⟨x1,x2,x3,x4,x5,rfl,hMA,-,-,-,-,-,hbX⟩;refine hK.out _ _ (bstep jH hbX) (fun jH=>?_);clear hK K;try simp only [zS]
    replace hNA:=hNA.later hbX;replace hqB:=rowL hqB hbX;clear hbX;refine rd 4 qYg3 (fun K hK=>?_);go_simp;refine(HSP.out gA (cp d x1 x2 x3 x4 x5) _ hNA hMA (Nat.le_refl _)).mono ?_;rintro e v ⟨aW,cW,rfl,hLX,hbX⟩;refine hK.out _ _ (bstep jH hbX) (fun jH=>?_);clear hK K;try simp only [zS]
    have hLv:Liv (fun b=>b≠bB) v (fun u=>TL u aW A.length (fun i=>A.getD i _root_.Go.Proofs.YtgeiamgeclbiaaaGreatDoor.t0)):=hLX.wide (fun b h1 _ e=>by have:=(Array.getElem?_eq_some_iff.1 hqB).1;omega);clear hLX hNA hMA;replace hqB:=rowL hqB hbX;clear hbX;refine tk 5 qYg4 (fun x jS=>by go_simp<;>rfl) jH ?_
    try simp only [zS]
    refine tk 6 qYg5 (fun x jS=>by go_simp<;>rfl) jH ?_
    try simp only [zS]
    refine tk 7 qYg6 (fun x jS=>by go_simp<;>rfl) jH ?_
    try simp only [zS]
    refine rd 9 qYg7 (fun K hK=>?_);obtain⟨m0_,mf_⟩:=box1 hqB;go_simp;refine hK.out _ _ (jH.setCell hsB _) (fun jH=>?_);clear hK K;try simp only [Act.put]
    replace hqB:=row1 hqB (.slice aW A.length cW);have hLv2:Liv (fun b=>b<(v.setCell ⟨bB,0,none⟩ (.slice aW A.length cW)).heap.size) (v.setCell ⟨bB,0,none⟩ (.slice aW A.length cW)) (fun u=>TL u aW A.length (fun i=>A.getD i _root_.Go.Proofs.YtgeiamgeclbiaaaGreatDoor.t0)):=(hLv.step fun a_ v_ hx hc=>(World.cell?_of_block (heap_setCell_other _ _ _ _ hx)).trans hc).wide (fun _ _ h=>h);clear hLv m0_ mf_;generalize v.setCell ⟨bB,0,none⟩ (.slice aW A.length cW)=v at hqB jH hLv2 ⊢;refine tk 10 qYg8 (fun x jS=>by go_simp<;>rfl) jH ?_
    try simp only [zS]
    refine wpAnyH_done (by kernel_rfl) ?_ _;exact H v bB cW gA x1 x2 x3 x4 x5 aW ⟨jH,hqB,hLv2,hsB⟩
  case' w1_c1=>
   have hqB:=heap_alloc_new v (.cells #[.slice none 0 0] 38);have hbX:=bal v (.cells #[.slice none 0 0] 38);have hsB:=jH.size;go_simp;refine hK.out _ _ (bstep jH hbX) (fun jH=>?_);clear hK K;try simp only [zS]
   clear hbX;generalize v.heap.size=bB at hqB hsB ⊢;generalize v.alloc (.cells #[.slice none 0 0] 38)=v at hqB jH ⊢;refine rd 1 qYg0 (fun K hK=>?_);go_simp;refine(toDb' a n c T _ (hTL.later (bstep hb1 jH)) hn).mono ?_;rintro e v ⟨gA,rfl,hNA,-,hbX⟩;refine hK.out _ _ (bstep jH hbX) (fun jH=>?_);clear hK K;try simp only [zS]
   replace hqB:=rowL hqB hbX;clear hbX;refine rd 3 qYg2 (fun K hK=>?_);go_simp;refine(toStm' d p _ (hSM.later (bstep hb1 jH))).mono ?_;rintro e v ⟨x1,x2,x3,x4,x5,rfl,hMA,-,-,-,-,-,hbX⟩;refine hK.out _ _ (bstep jH hbX) (fun jH=>?_);clear hK K;try simp only [zS]
   replace hNA:=hNA.later hbX;replace hqB:=rowL hqB hbX;clear hbX;refine rd 4 qYg3 (fun K hK=>?_);go_simp;refine(HSP.out gA (cp d x1 x2 x3 x4 x5) _ hNA hMA (Nat.le_refl _)).mono ?_;rintro e v ⟨aW,cW,rfl,hLX,hbX⟩;refine hK.out _ _ (bstep jH hbX) (fun jH=>?_);clear hK K;try simp only [zS]
   have hLv:Liv (fun b=>b≠bB) v (fun u=>TL u aW A.length (fun i=>A.getD i _root_.Go.Proofs.YtgeiamgeclbiaaaGreatDoor.t0)):=hLX.wide (fun b h1 _ e=>by have:=(Array.getElem?_eq_some_iff.1 hqB).1;omega);clear hLX hNA hMA;replace hqB:=rowL hqB hbX;clear hbX;refine tk 5 qYg4 (fun x jS=>by go_simp<;>rfl) jH ?_
   try simp only [zS]
   refine tk 6 qYg5 (fun x jS=>by go_simp<;>rfl) jH ?_
   try simp only [zS]
   refine tk 7 qYg6 (fun x jS=>by go_simp<;>rfl) jH ?_
   try simp only [zS]
   refine rd 9 qYg7 (fun K hK=>?_);obtain⟨m0_,mf_⟩:=box1 hqB;go_simp;refine hK.out _ _ (jH.setCell hsB _) (fun jH=>?_);clear hK K;try simp only [Act.put]
   replace hqB:=row1 hqB (.slice aW A.length cW);have hLv2:Liv (fun b=>b<(v.setCell ⟨bB,0,none⟩ (.slice aW A.length cW)).heap.size) (v.setCell ⟨bB,0,none⟩ (.slice aW A.length cW)) (fun u=>TL u aW A.length (fun i=>A.getD i _root_.Go.Proofs.YtgeiamgeclbiaaaGreatDoor.t0)):=(hLv.step fun a_ v_ hx hc=>(World.cell?_of_block (heap_setCell_other _ _ _ _ hx)).trans hc).wide (fun _ _ h=>h);clear hLv m0_ mf_;generalize v.setCell ⟨bB,0,none⟩ (.slice aW A.length cW)=v at hqB jH hLv2 ⊢;refine tk 10 qYg8 (fun x jS=>by go_simp<;>rfl) jH ?_
   try simp only [zS]
   refine wpAnyH_done (by kernel_rfl) ?_ _;exact H v bB cW gA x1 x2 x3 x4 x5 aW ⟨jH,hqB,hLv2,hsB⟩
 rintro w4 b6 cW gA x1 x2 x3 x4 x5 aW ⟨jH,q6,hLW,hs6⟩;have hbA:=bstep hb1 jH;have q0:=rowL r0 jH;have q1:=rowL r1 jH;have HSM:Hid (∀ i,i<A.length->Sm3 (A.getD i _root_.Go.Proofs.YtgeiamgeclbiaaaGreatDoor.t0)):=Sm3.of hLW.now;obtain⟨k0_,-⟩:=box1 q0;obtain⟨j0_,j1_,j2_,j3_,j4_,j5_,j6_,j7_⟩:=box8 q1;have hz4:w.heap.size+2<=w4.heap.size:=by
  have e1:((w.alloc (.cells #[.slice a n c] 24)).alloc (.cells (cs8 d p) 30)).heap.size=w.heap.size+2:=by simp
  have e2:=hb0.size;have e3:=hb1'.size;have e4:=jH.size;omega
 have hz6:b6<w4.heap.size:=(Array.getElem?_eq_some_iff.1 q6).1;clear jH;go_upto_region 14 with (first | (go_at_call 12;have _h:=hB7;refine(eqDb_any aG7 aW A.length cG7 cW (fun i=>A.getD i _root_.Go.Proofs.YtgeiamgeclbiaaaGreatDoor.t0) _ (hDA.tl HSM.out) (hLW.later (bstep hB5 (bstep hB6 hB7))).now (by omega)).mono ?_;rintro e w7 ⟨rfl,hb7b⟩) | (go_at_call 19;have _h:=hB6;refine(HIM.out g5 (cp d y1 y2 y3 y4 y5) _ (hSp.later (bstep hbA (bstep hB5 hB6))) ((hN5.later (bal w5 (.cells #[.slice (some ⟨g5,0,none⟩) n n] 38))).later hB6).tl (hM6.later (bal w6 (.cells (cs8 d (cp d y1 y2 y3 y4 y5)) 45)))).mono ?_;rintro e w7a ⟨aG7,cG7,rfl,hDA0,hb7'⟩;have hB7:=bstep hb7' (bal w7a (.cells #[.slice aG7 A.length cG7] 38));have hqG:=heap_alloc_new w7a (.cells #[.slice aG7 A.length cG7] 38);obtain⟨g0_,-⟩:=box1 hqG;obtain⟨s6_,-⟩:=box1 (rowL q6 (bstep hB5 (bstep hB6 hB7)));have hDA:=hDA0.later (bal w7a (.cells #[.slice aG7 A.length cG7] 38))) | (go_at_call 9;have _h:=hB5;refine(toStm' d p _ (hSM.later (bstep hbA hB5))).mono ?_;rintro e w6 ⟨y1,y2,y3,y4,y5,rfl,hM6,hW1,hW2,hW3,hW4,hW5,hb6⟩;have hB6:=bstep hb6 (bal w6 (.cells (cs8 d (cp d y1 y2 y3 y4 y5)) 45));obtain⟨m0,-⟩:=box1 (rowL (heap_alloc_new w5 (.cells #[.slice (some ⟨g5,0,none⟩) n n] 38)) hB6);obtain⟨n0_,n1_,n2_,n3_,n4_,n5_,n6_,n7_⟩:=box8 (heap_alloc_new w6 (.cells (cs8 d (cp d y1 y2 y3 y4 y5)) 45))) | (go_at_call 8;refine(toDb' a n c T _ (hTL.later hbA) hn).mono ?_;rintro e w5 ⟨g5,rfl,hN5,hT5,hb5⟩;have hB5:=bstep hb5 (bal w5 (.cells #[.slice (some ⟨g5,0,none⟩) n n] 38));obtain⟨l0_,l1_,l2_,l3_,l4_,l5_,l6_,l7_⟩:=box8 (rowL q1 hB5)))
 have hBt:=bstep hB5 (bstep hB6 (bstep hB7 hb7b));have hb7:=bstep hbA hBt;have s0:=rowL q0 hBt;have s1:=rowL q1 hBt;have s6:=rowL q6 hBt;have sG:=rowL hqG hb7b;have sD:=rowL (rowL (rowL (heap_alloc_new w5 (.cells #[.slice (some ⟨g5,0,none⟩) n n] 38)) hB6) hB7) hb7b;have sS:=rowL (rowL (heap_alloc_new w6 (.cells (cs8 d (cp d y1 y2 y3 y4 y5)) 45)) hB7) hb7b;have hTA:=((hN5.later (bal w5 (.cells #[.slice (some ⟨g5,0,none⟩) n n] 38))).later (bstep hB6 (bstep hB7 hb7b))).tl;have hMA:=hM6.later (bstep (bal w6 (.cells (cs8 d (cp d y1 y2 y3 y4 y5)) 45)) (bstep hB7 hb7b));have z5:w4.heap.size<=w5.heap.size:=hb5.size;have z5':(w5.alloc (.cells #[.slice (some ⟨g5,0,none⟩) n n] 38)).heap.size=w5.heap.size+1:=World.size_alloc _ _;have z6:w5.heap.size+1<=w6.heap.size:=by have:=hb6.size;omega
 have z6':(w6.alloc (.cells (cs8 d (cp d y1 y2 y3 y4 y5)) 45)).heap.size=w6.heap.size+1:=World.size_alloc _ _;have hT7:=((hT5.hi (Nat.le_refl _) (show w5.heap.size<=w6.heap.size by omega)).kp (KpR.below (bstep (bal w5 (.cells #[.slice (some ⟨g5,0,none⟩) n n] 38)) (bstep hB6 (bstep hB7 hb7b)))));have hB67:=bstep (bal w6 (.cells (cs8 d (cp d y1 y2 y3 y4 y5)) 45)) (bstep hB7 hb7b);have hW1':=(hW1.hi (show w4.heap.size<=_ by omega) (Nat.le_refl _)).kp (KpR.below hB67);have hW2':=(hW2.hi (show w4.heap.size<=_ by omega) (Nat.le_refl _)).kp (KpR.below hB67);have hW3':=(hW3.hi (show w4.heap.size<=_ by omega) (Nat.le_refl _)).kp (KpR.below hB67);have hW4':=(hW4.hi (show w4.heap.size<=_ by omega) (Nat.le_refl _)).kp (KpR.below hB67);have hW5':=(hW5.hi (show w4.heap.size<=_ by omega) (Nat.le_refl _)).kp (KpR.below hB67);have hLW7:=hLW.later hBt;have hDA7:=hDA.later hb7b;rw [z6'] at hDA7;have z7a:w6.heap.size+1<=w7a.heap.size:=by have:=hb7'.size;omega
 have z7:w7a.heap.size<w7.heap.size:=(Array.getElem?_eq_some_iff.1 sG).1;clear hT5 hW1 hW2 hW3 hW4 hW5 hDA hDA0 hLW hM6 hN5;refine wp_region_held_drew (S:=fun x=>Below w7.heap.size w7 x) (by kernel_rfl) (bdrV _) (fun jH=>?_);refine tk 0 (⟨some 54,.load 38 (.tmp 8),38,"exact.go:1853",#[],none⟩:Oper) (fun x jS=>by obtain⟨k0_,-⟩:=box1 (rowL s0 jS);obtain⟨j0_,j1_,j2_,j3_,j4_,j5_,j6_,j7_⟩:=box8 (rowL s1 jS);obtain⟨y0_,-⟩:=box1 (rowL sD jS);go_simp<;>rfl) jH ?_
 try simp only [zS]
 refine tk 1 (⟨some 55,.load 24 (.tmp 2),24,"exact.go:1853",#[],none⟩:Oper) (fun x jS=>by obtain⟨k0_,-⟩:=box1 (rowL s0 jS);obtain⟨j0_,j1_,j2_,j3_,j4_,j5_,j6_,j7_⟩:=box8 (rowL s1 jS);obtain⟨y0_,-⟩:=box1 (rowL sD jS);go_simp<;>rfl) jH ?_
 try simp only [zS]
 refine rd 2 (⟨some 56,.call ⟨.value (.func 8),#[.tmp 55],#[24]⟩,38,"exact.go:1853",#[⟨1,.data⟩],none⟩:Oper) (fun K hK=>?_);go_simp;refine(toDb' a n c T _ (hTL.later (bstep hb7 jH)) hn).mono ?_;rintro e w8 ⟨gC,rfl,hN8,-,hb8⟩;have hH8:=bstep jH hb8;refine hK.out _ _ (hH8) (fun jH=>?_);clear hK K;try simp only [zS]
 refine rd 3 (⟨some 57,.call ⟨.value (.func 12),#[.tmp 54,.tmp 56],#[38,38]⟩,4,"exact.go:1853",#[⟨0,.data⟩,⟨2,.data⟩,⟨2,.chain⟩],none⟩:Oper) (fun K hK=>?_);go_simp;refine(eqDb_any _ _ n n n T _ (hTA.later jH) hN8.tl hn).mono ?_;rintro e w9 ⟨rfl,hb9⟩;have hH9:=bstep jH hb9;refine hK.out _ _ (hH9) (fun jH=>?_);clear hK K;try simp only [zS]
 refine tk 4 (⟨some 58,.unOp .not 4 (.tmp 57),4,"exact.go:1853",#[⟨3,.data⟩],none⟩:Oper) (fun x jS=>by go_simp<;>rfl) jH ?_
 try simp only [zS]
 refine wpAnyH_done (by kernel_rfl) ?_ _;have hb9:=bstep hb7 jH;have u0:=rowL s0 jH;have u1:=rowL s1 jH;have u6:=rowL s6 jH;have uG:=rowL sG jH;have uS:=rowL sS jH;have uD:=rowL sD jH;replace hMA:=hMA.later jH;have hH79:=jH;clear jH hTA;go_upto_region 16 with (fail)
 refine wp_region_held_drew (S:=fun x=>Below w9.heap.size w9 x) (by kernel_rfl) (bdrV _) (fun jH=>?_);refine tk 0 (⟨some 59,.load 45 (.tmp 9),45,"exact.go:1856",#[],none⟩:Oper) (fun x jS=>by obtain⟨k0_,-⟩:=box1 (rowL u0 jS);obtain⟨j0_,j1_,j2_,j3_,j4_,j5_,j6_,j7_⟩:=box8 (rowL u1 jS);obtain⟨y0_,y1_,y2_,y3_,y4_,y5_,y6_,y7_⟩:=box8 (rowL uS jS);go_simp<;>rfl) jH ?_
 try simp only [zS]
 refine tk 1 (⟨some 60,.load 30 (.tmp 3),30,"exact.go:1856",#[],none⟩:Oper) (fun x jS=>by obtain⟨k0_,-⟩:=box1 (rowL u0 jS);obtain⟨j0_,j1_,j2_,j3_,j4_,j5_,j6_,j7_⟩:=box8 (rowL u1 jS);obtain⟨y0_,y1_,y2_,y3_,y4_,y5_,y6_,y7_⟩:=box8 (rowL uS jS);go_simp<;>rfl) jH ?_
 try simp only [zS]
 refine rd 2 (⟨some 61,.call ⟨.value (.func 9),#[.tmp 60],#[30]⟩,45,"exact.go:1856",#[⟨1,.data⟩],none⟩:Oper) (fun K hK=>?_);go_simp;refine(toStm' d p _ (hSM.later (bstep hb9 jH))).mono ?_;rintro e w10 ⟨z1,z2,z3,z4,z5,rfl,hM10,-,-,-,-,-,hb10⟩;have hH10:=bstep jH hb10;refine hK.out _ _ (hH10) (fun jH=>?_);clear hK K;try simp only [zS]
 refine rd 3 (⟨some 62,.call ⟨.value (.func 13),#[.tmp 59,.tmp 61],#[45,45]⟩,4,"exact.go:1856",#[⟨0,.data⟩,⟨2,.data⟩,⟨2,.chain⟩],none⟩:Oper) (fun K hK=>?_);go_simp;refine(eqStm_any d _ _ _ (hMA.later jH) hM10).mono ?_;rintro e w11 ⟨rfl,hb11⟩;have hH11:=bstep jH hb11;refine hK.out _ _ (hH11) (fun jH=>?_);clear hK K;try simp only [zS]
 refine tk 4 (⟨some 63,.unOp .not 4 (.tmp 62),4,"exact.go:1856",#[⟨3,.data⟩],none⟩:Oper) (fun x jS=>by go_simp<;>rfl) jH ?_
 try simp only [zS]
 refine wpAnyH_done (by kernel_rfl) ?_ _;have hb11:=bstep hb9 jH;have hX11:=bstep hH79 jH;have vD:=rowL uD jH;have vS:=rowL uS jH;have vG:=rowL uG jH;have v6:=rowL u6 jH;have v0:=rowL u0 jH;have v1:=rowL u1 jH;have hT11:=hT7.kp (KpR.below hX11);have g1:=hW1'.kp (KpR.below hX11);have g2:=hW2'.kp (KpR.below hX11);have g3:=hW3'.kp (KpR.below hX11);have g4:=hW4'.kp (KpR.below hX11);have g5':=hW5'.kp (KpR.below hX11);have hLW11:=hLW7.later hX11;have hDA11:=hDA7.later hX11;have z11:w7a.heap.size<w11.heap.size:=by have:=hX11.size;omega
 obtain⟨aa,-⟩:=box1 vD;obtain⟨o0_,o1_,o2_,o3_,o4_,o5_,o6_,o7_⟩:=box8 vS;clear hT7 hW1' hW2' hW3' hW4' hW5' hLW7 hDA7 jH;go_upto_region 31 with (first | (go_at_call 20;have _h:=hb14;refine(heldGotD aG7 cG7 A K3 _ hMd hAl).mono ?_;rintro e w15 ⟨rfl,hb15'⟩) | (go_at_call 14;have _h:=hb13b;refine(markGotD (w6.heap.size+1) w7a.heap.size aG7 cG7 A _ hDA13 (by have:=hMM.size;have:=hb13b.size;omega) hAl HSM.out).mono ?_;rintro e w14 ⟨K3,rfl,hK3,hMd,hb14,hfr14⟩;obtain⟨gk0_,-⟩:=box1 ((hfr14 _ (Nat.le_refl _) (Array.getElem?_eq_some_iff.1 r13).1).trans r13)) | (go_at_call 12;have _h:=hMM;refine(eqDb_any aG7 aW A.length cG7 cW (fun i=>A.getD i _root_.Go.Proofs.YtgeiamgeclbiaaaGreatDoor.t0) _ ((hDA11.mk hMM (by omega)).tl HSM.out) (hLW11.mk hMM).now (by omega)).mono ?_;rintro e w13b ⟨rfl,hb13b⟩;have r13:=rowL (hMM.row vG (Or.inr (by omega))) hb13b;obtain⟨gh0_,-⟩:=box1 r13;have hDA13:=(hDA11.mk hMM (by omega)).later hb13b) | (go_at_call 15;have _h:=hM12;refine(mkStm w4.heap.size w6.heap.size k1 d.k d.tb (some ⟨y1,0,none⟩) d.n2 d.n2 (some ⟨y2,0,none⟩) d.n3 d.n3 d.col (some ⟨y3,0,none⟩) d.n5 d.n5 (some ⟨y4,0,none⟩) d.n6 d.n6 y5 d.n7 d.n7 d.m7 K1 HK1.out _ (g1.mk hM12) (g2.mk hM12) (g3.mk hM12) (g4.mk hM12) (g5'.mk hM12 hardI) (by have:=hM12.size;omega) hSM.l2 hSM.l3 hSM.l5 hSM.l6 hSM.l7 (by omega) (by omega)).mono ?_;rintro e w13 ⟨K2,k2,rfl,HK2,hk3,hM13⟩;have hMM:=hM12.trans hM13;have hK2:¬K2<0:=(by have:=HK2.out;omega);obtain⟨gi0_,-⟩:=box1 (hMM.row vG (Or.inr (by omega)));obtain⟨gj0_,-⟩:=box1 (hMM.row v6 (Or.inl (by omega)))) | (go_at_call 14;refine(mkDb w4.heap.size w6.heap.size g5 n n 1 T 1 rfl _ hT11 (by omega) (by omega) hn).mono ?_;rintro e w12 ⟨K1,k1,rfl,HK1,hk1,hk2,hM12⟩;obtain⟨o0_,o1_,o2_,o3_,o4_,o5_,o6_,o7_⟩:=box8 (hM12.row vS (Or.inr (Nat.le_refl _)))))
 have hbM:=below_mk hb11 hMM (by omega) (Nat.le_refl _);have hb13:=bstep hbM hb13b;have hb14w:Below w.heap.size w w14:=⟨hb14.os.trans hb13.os,hb14.tape.trans hb13.tape,hb14.output.trans hb13.output,Nat.le_trans hb13.size hb14.size,fun x hx=>(hb14.block x (by omega)).trans (hb13.block x hx)⟩;have hb15:=bstep hb14w hb15';have t0:=rowL ((hb14.block _ (by omega)).trans (rowL (hMM.row v0 (Or.inl (by omega))) hb13b)) hb15';have t1:=rowL ((hb14.block _ (by omega)).trans (rowL (hMM.row v1 (Or.inl (by omega))) hb13b)) hb15';have t6:=rowL ((hb14.block _ (by omega)).trans (rowL (hMM.row v6 (Or.inl (by omega))) hb13b)) hb15';have hLW15:=((((hLW11.mk hMM).later hb13b)).bel hb14 (by omega)).later hb15';clear g1 g2 g3 g4 g5' hT11 hLW11 hDA11 hDA13 hMd;refine' cutG (F:=fun v bB cH gA x1 x2 x3 x4 x5 aH=>Below w15.heap.size w15 v/\v.heap[bB]?=some (.cells #[.slice aH A.length cH] 38 (0,0))/\TL v aH A.length (fun i=>A.getD i _root_.Go.Proofs.YtgeiamgeclbiaaaGreatDoor.t0)) _ ?main2 ?rest2;case main2=>
  intro H;refine wp_region_held_drew (S:=fun x=>Below w15.heap.size w15 x) (by kernel_rfl) (bdrV _) (fun jH=>?_);generalize w15.drew=v at jH ⊢;refine tk 0 (⟨some 95,.load 24 (.tmp 2),24,"exact.go:1875",#[],none⟩:Oper) (fun x jS=>by obtain⟨k0_,-⟩:=box1 (rowL t0 jS);obtain⟨j0_,j1_,j2_,j3_,j4_,j5_,j6_,j7_⟩:=box8 (rowL t1 jS);go_simp<;>rfl) jH ?_
  try simp only [zS]
  refine tk 2 (⟨some 97,.load 30 (.tmp 3),30,"exact.go:1875",#[],none⟩:Oper) (fun x jS=>by obtain⟨k0_,-⟩:=box1 (rowL t0 jS);obtain⟨j0_,j1_,j2_,j3_,j4_,j5_,j6_,j7_⟩:=box8 (rowL t1 jS);go_simp<;>rfl) jH ?_
  try simp only [zS]
  refine wpAnyH_ready (rs:=[1,8]) (by kernel_rfl) (by simp) ?_;refine(AllReadyH.cons (o:=qYg9) rfl (fun K hK=>?w2_c2) (AllReadyH.cons (o:=qYg10) rfl (fun K hK=>?w2_c1) AllReadyH.nil));case' w2_c2=>
   go_simp;refine(toDb' a n c T _ (hTL.later (bstep hb15 jH)) hn).mono ?_;rintro e v ⟨gA,rfl,hNA,-,hbX⟩;refine hK.out _ _ (bstep jH hbX) (fun jH=>?_);clear hK K;try simp only [zS]
   clear hbX;refine wpAnyH_ready (rs:=[3,8]) (by kernel_rfl) (by simp) ?_;refine(AllReadyH.cons (o:=qYg11) rfl (fun K hK=>?w2_c4) (AllReadyH.cons (o:=qYg10) rfl (fun K hK=>?w2_c3) AllReadyH.nil));case' w2_c4=>
    go_simp;refine(toStm' d p _ (hSM.later (bstep hb15 jH))).mono ?_;rintro e v ⟨x1,x2,x3,x4,x5,rfl,hMA,-,-,-,-,-,hbX⟩;refine hK.out _ _ (bstep jH hbX) (fun jH=>?_);clear hK K;try simp only [zS]
    replace hNA:=hNA.later hbX;clear hbX;refine wpAnyH_ready (rs:=[4,8]) (by kernel_rfl) (by simp) ?_;refine(AllReadyH.cons (o:=qYg12) rfl (fun K hK=>?w2_c6) (AllReadyH.cons (o:=qYg10) rfl (fun K hK=>?w2_c5) AllReadyH.nil));case' w2_c6=>
     go_simp;refine(HIM.out gA (cp d x1 x2 x3 x4 x5) _ (hSp.later (bstep hb15 jH)) hNA.tl hMA).mono ?_;rintro e v ⟨aH,cH,rfl,hDX,hbX⟩;refine hK.out _ _ (bstep jH hbX) (fun jH=>?_);clear hK K;try simp only [zS]
     have hDx:∃ lo_,DA lo_ v.heap.size v aH A:=⟨_,hDX⟩;clear hDX hNA hMA;clear hbX;refine tk 5 qYg13 (fun x jS=>by go_simp<;>rfl) jH ?_
     try simp only [zS]
     refine tk 6 qYg14 (fun x jS=>by go_simp<;>rfl) jH ?_
     try simp only [zS]
     refine tk 7 qYg15 (fun x jS=>by go_simp<;>rfl) jH ?_
     try simp only [zS]
     refine rd 8 qYg10 (fun K hK=>?_);have hqB:=heap_alloc_new v (.cells #[.slice none 0 0] 38);have hbX:=bal v (.cells #[.slice none 0 0] 38);have hsB:=jH.size;go_simp;refine hK.out _ _ (bstep jH hbX) (fun jH=>?_);clear hK K;try simp only [zS]
     replace hDx:∃ lo_ hi_,DA lo_ hi_ (v.alloc (.cells #[.slice none 0 0] 38)) aH A/\(v.heap.size<lo_∨hi_<=v.heap.size):=(by obtain⟨lo_,h⟩:=hDx;exact⟨lo_,_,h.later hbX,Or.inr (Nat.le_refl _)⟩);clear hbX;generalize v.heap.size=bB at hqB hsB hDx ⊢;generalize v.alloc (.cells #[.slice none 0 0] 38)=v at hqB jH hDx ⊢;refine rd 9 qYg16 (fun K hK=>?_);obtain⟨m0_,mf_⟩:=box1 hqB;go_simp;refine hK.out _ _ (jH.setCell hsB _) (fun jH=>?_);clear hK K;try simp only [Act.put]
     replace hqB:=row1 hqB (.slice aH A.length cH);have hTx:TL (v.setCell ⟨bB,0,none⟩ (.slice aH A.length cH)) aH A.length (fun i=>A.getD i _root_.Go.Proofs.YtgeiamgeclbiaaaGreatDoor.t0):=(by obtain⟨lo_,hi_,h1_,h2_⟩:=hDx;exact(h1_.set h2_).tl HSM.out);clear hDx m0_ mf_;generalize v.setCell ⟨bB,0,none⟩ (.slice aH A.length cH)=v at hqB jH hTx ⊢;refine tk 10 qYg17 (fun x jS=>by go_simp<;>rfl) jH ?_
     try simp only [zS]
     refine wpAnyH_done (by kernel_rfl) ?_ _;exact H v bB cH gA x1 x2 x3 x4 x5 aH ⟨jH,hqB,hTx⟩
    case' w2_c5=>
     have hqB:=heap_alloc_new v (.cells #[.slice none 0 0] 38);have hbX:=bal v (.cells #[.slice none 0 0] 38);have hsB:=jH.size;go_simp;refine hK.out _ _ (bstep jH hbX) (fun jH=>?_);clear hK K;try simp only [zS]
     replace hNA:=hNA.later hbX;replace hMA:=hMA.later hbX;clear hbX;generalize v.heap.size=bB at hqB hsB ⊢;generalize v.alloc (.cells #[.slice none 0 0] 38)=v at hqB jH hNA hMA ⊢;refine rd 4 qYg12 (fun K hK=>?_);go_simp;refine(HIM.out gA (cp d x1 x2 x3 x4 x5) _ (hSp.later (bstep hb15 jH)) hNA.tl hMA).mono ?_;rintro e v ⟨aH,cH,rfl,hDX,hbX⟩;refine hK.out _ _ (bstep jH hbX) (fun jH=>?_);clear hK K;try simp only [zS]
     have hDx:∃ lo_ hi_,DA lo_ hi_ v aH A/\(bB<lo_∨hi_<=bB):=⟨_,_,hDX,Or.inl (Array.getElem?_eq_some_iff.1 hqB).1⟩;clear hDX hNA hMA;replace hqB:=rowL hqB hbX;clear hbX;refine tk 5 qYg13 (fun x jS=>by go_simp<;>rfl) jH ?_
     try simp only [zS]
     refine tk 6 qYg14 (fun x jS=>by go_simp<;>rfl) jH ?_
     try simp only [zS]
     refine tk 7 qYg15 (fun x jS=>by go_simp<;>rfl) jH ?_
     try simp only [zS]
     refine rd 9 qYg16 (fun K hK=>?_);obtain⟨m0_,mf_⟩:=box1 hqB;go_simp;refine hK.out _ _ (jH.setCell hsB _) (fun jH=>?_);clear hK K;try simp only [Act.put]
     replace hqB:=row1 hqB (.slice aH A.length cH);have hTx:TL (v.setCell ⟨bB,0,none⟩ (.slice aH A.length cH)) aH A.length (fun i=>A.getD i _root_.Go.Proofs.YtgeiamgeclbiaaaGreatDoor.t0):=(by obtain⟨lo_,hi_,h1_,h2_⟩:=hDx;exact(h1_.set h2_).tl HSM.out);clear hDx m0_ mf_;generalize v.setCell ⟨bB,0,none⟩ (.slice aH A.length cH)=v at hqB jH hTx ⊢;refine tk 10 qYg17 (fun x jS=>by go_simp<;>rfl) jH ?_
     try simp only [zS]
     refine wpAnyH_done (by kernel_rfl) ?_ _;exact H v bB cH gA x1 x2 x3 x4 x5 aH ⟨jH,hqB,hTx⟩
   case' w2_c3=>
    have hqB:=heap_alloc_new v (.cells #[.slice none 0 0] 38);have hbX:=bal v (.cells #[.slice none 0 0] 38);have hsB:=jH.size;go_simp;refine hK.out _ _ (bstep jH hbX) (fun jH=>?_);clear hK K;try simp only [zS]
    replace hNA:=hNA.later hbX;clear hbX;generalize v.heap.size=bB at hqB hsB ⊢;generalize v.alloc (.cells #[.slice none 0 0] 38)=v at hqB jH hNA ⊢;refine rd 3 qYg11 (fun K hK=>?_);go_simp;refine(toStm' d p _ (hSM.later (bstep hb15 jH))).mono ?_;rintro e v ⟨x1,x2,x3,x4,x5,rfl,hMA,-,-,-,-,-,hbX⟩;refine hK.out _ _ (bstep jH hbX) (fun jH=>?_);clear hK K;try simp only [zS]
    replace hNA:=hNA.later hbX;replace hqB:=rowL hqB hbX;clear hbX;refine rd 4 qYg12 (fun K hK=>?_);go_simp;refine(HIM.out gA (cp d x1 x2 x3 x4 x5) _ (hSp.later (bstep hb15 jH)) hNA.tl hMA).mono ?_;rintro e v ⟨aH,cH,rfl,hDX,hbX⟩;refine hK.out _ _ (bstep jH hbX) (fun jH=>?_);clear hK K;try simp only [zS]
    have hDx:∃ lo_ hi_,DA lo_ hi_ v aH A/\(bB<lo_∨hi_<=bB):=⟨_,_,hDX,Or.inl (Array.getElem?_eq_some_iff.1 hqB).1⟩;clear hDX hNA hMA;replace hqB:=rowL hqB hbX;clear hbX;refine tk 5 qYg13 (fun x jS=>by go_simp<;>rfl) jH ?_
    try simp only [zS]
    refine tk 6 qYg14 (fun x jS=>by go_simp<;>rfl) jH ?_
    try simp only [zS]
    refine tk 7 qYg15 (fun x jS=>by go_simp<;>rfl) jH ?_
    try simp only [zS]
    refine rd 9 qYg16 (fun K hK=>?_);obtain⟨m0_,mf_⟩:=box1 hqB;go_simp;refine hK.out _ _ (jH.setCell hsB _) (fun jH=>?_);clear hK K;try simp only [Act.put]
    replace hqB:=row1 hqB (.slice aH A.length cH);have hTx:TL (v.setCell ⟨bB,0,none⟩ (.slice aH A.length cH)) aH A.length (fun i=>A.getD i _root_.Go.Proofs.YtgeiamgeclbiaaaGreatDoor.t0):=(by obtain⟨lo_,hi_,h1_,h2_⟩:=hDx;exact(h1_.set h2_).tl HSM.out);clear hDx m0_ mf_;generalize v.setCell ⟨bB,0,none⟩ (.slice aH A.length cH)=v at hqB jH hTx ⊢;refine tk 10 qYg17 (fun x jS=>by go_simp<;>rfl) jH ?_
    try simp only [zS]
    refine wpAnyH_done (by kernel_rfl) ?_ _;exact H v bB cH gA x1 x2 x3 x4 x5 aH ⟨jH,hqB,hTx⟩
  case' w2_c1=>
   have hqB:=heap_alloc_new v (.cells #[.slice none 0 0] 38);have hbX:=bal v (.cells #[.slice none 0 0] 38);have hsB:=jH.size;go_simp;refine hK.out _ _ (bstep jH hbX) (fun jH=>?_);clear hK K;try simp only [zS]
   clear hbX;generalize v.heap.size=bB at hqB hsB ⊢;generalize v.alloc (.cells #[.slice none 0 0] 38)=v at hqB jH ⊢;refine rd 1 qYg9 (fun K hK=>?_);go_simp;refine(toDb' a n c T _ (hTL.later (bstep hb15 jH)) hn).mono ?_;rintro e v ⟨gA,rfl,hNA,-,hbX⟩;refine hK.out _ _ (bstep jH hbX) (fun jH=>?_);clear hK K;try simp only [zS]
   replace hqB:=rowL hqB hbX;clear hbX;refine rd 3 qYg11 (fun K hK=>?_);go_simp;refine(toStm' d p _ (hSM.later (bstep hb15 jH))).mono ?_;rintro e v ⟨x1,x2,x3,x4,x5,rfl,hMA,-,-,-,-,-,hbX⟩;refine hK.out _ _ (bstep jH hbX) (fun jH=>?_);clear hK K;try simp only [zS]
   replace hNA:=hNA.later hbX;replace hqB:=rowL hqB hbX;clear hbX;refine rd 4 qYg12 (fun K hK=>?_);go_simp;refine(HIM.out gA (cp d x1 x2 x3 x4 x5) _ (hSp.later (bstep hb15 jH)) hNA.tl hMA).mono ?_;rintro e v ⟨aH,cH,rfl,hDX,hbX⟩;refine hK.out _ _ (bstep jH hbX) (fun jH=>?_);clear hK K;try simp only [zS]
   have hDx:∃ lo_ hi_,DA lo_ hi_ v aH A/\(bB<lo_∨hi_<=bB):=⟨_,_,hDX,Or.inl (Array.getElem?_eq_some_iff.1 hqB).1⟩;clear hDX hNA hMA;replace hqB:=rowL hqB hbX;clear hbX;refine tk 5 qYg13 (fun x jS=>by go_simp<;>rfl) jH ?_
   try simp only [zS]
   refine tk 6 qYg14 (fun x jS=>by go_simp<;>rfl) jH ?_
   try simp only [zS]
   refine tk 7 qYg15 (fun x jS=>by go_simp<;>rfl) jH ?_
   try simp only [zS]
   refine rd 9 qYg16 (fun K hK=>?_);obtain⟨m0_,mf_⟩:=box1 hqB;go_simp;refine hK.out _ _ (jH.setCell hsB _) (fun jH=>?_);clear hK K;try simp only [Act.put]
   replace hqB:=row1 hqB (.slice aH A.length cH);have hTx:TL (v.setCell ⟨bB,0,none⟩ (.slice aH A.length cH)) aH A.length (fun i=>A.getD i _root_.Go.Proofs.YtgeiamgeclbiaaaGreatDoor.t0):=(by obtain⟨lo_,hi_,h1_,h2_⟩:=hDx;exact(h1_.set h2_).tl HSM.out);clear hDx m0_ mf_;generalize v.setCell ⟨bB,0,none⟩ (.slice aH A.length cH)=v at hqB jH hTx ⊢;refine tk 10 qYg17 (fun x jS=>by go_simp<;>rfl) jH ?_
   try simp only [zS]
   refine wpAnyH_done (by kernel_rfl) ?_ _;exact H v bB cH gA x1 x2 x3 x4 x5 aH ⟨jH,hqB,hTx⟩
 rintro w18 bH cH gE e1 e2 e3 e4 e5 aH ⟨jH,qH,hTH⟩;have hb18w:=bstep hb15 jH;obtain⟨b0_,-⟩:=box1 (rowL t6 jH);obtain⟨b1_,-⟩:=box1 qH;have HEQ:=eqDb_any aH aW A.length cH cW (fun i=>A.getD i _root_.Go.Proofs.YtgeiamgeclbiaaaGreatDoor.t0) w18 hTH (hLW15.later jH).now (by omega);go_wp2_with (go_at_call 12;refine HEQ.mono ?_;rintro e w19 ⟨rfl,hb19⟩)
 go_ret
 exact⟨rfl,bstep hb18w hb19⟩
end Go.Proofs.YtgeiamgeclbiaaaGreatDoor
