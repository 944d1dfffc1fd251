import Derived.Test.YtfnfdllflgmhnaaGreatDoorUk
open Go renaming Calls → XR, Value → XU, World → ο, bodyPost_ret → XL, heap_alloc_new → η, heap_setCell_same → π, wpList_append_lies → XY
open Go.IntKind renaming i64 → κ
open Go.Obj renaming cells → γ
open Go.Proofs.Tryz renaming prog → μ
open Go.RowKit renaming Below → υ, intOf → XX
open Go.Value renaming agg → χ, int → ι, slice → σ, string → τ, bool → β
open Go.World renaming news_of_block → XP, ownsRow_made → Xb, size_alloc → ω, size_setCell → Xl
open List renaming length_append → XQ
open Nat renaming le_refl → XK, add_zero → Xm
open Option renaming none → ν, some → ς
open Option.some renaming inj → XM
namespace Go.Proofs.YtfnfdllflgmhnaaGreatDoor
open Go.RowKit Go.Maps Go.WideMaps
set_option maxRecDepth 20000
set_option maxHeartbeats 16000000
def r0:Rw:=(0,λ_=>d0)
def Ni(C:Nat->Clm)(n:Nat)(m:Nat->Nat)(R:Nat->Nat->Itm)(W:Nat->Itm)(n6:Nat):Nat->List Rw
 | 0=>[]
 | k+1=>Ni C n m R W n6 k ++ Ez (!C5 C n (R k) W n6) (m k,R k)
theorem KW{C:Nat->Clm}{n:Nat}{m:Nat->Nat}{R:Nat->Nat->Itm}{W:Nat->Itm}{n6:Nat}{P:Rw->Prop}:∀ {k:Nat},(∀ j,j<k->P (m j,R j))->∀ x∈Ni C n m R W n6 k,P x
 | 0,_,x,hx=>by cases hx
 | k+1,h,x,hx=>by
  simp only [Ni,List.mem_append] at hx
  rcases hx with hx | hx
  · exact KW (λj hj=>h j (by omega)) x hx
  · rw [Ee hx];exact h k (by omega)
theorem KX{C:Nat->Clm}{n:Nat}{m:Nat->Nat}{R:Nat->Nat->Itm}{W:Nat->Itm}{n6:Nat}:∀ {k:Nat},(Ni C n m R W n6 k).length<=k
 | 0=>by simp [Ni]
 | k+1=>by
  have ih:=KX (C:=C) (n:=n) (m:=m) (R:=R) (W:=W) (n6:=n6) (k:=k);simp only [Ni,XQ,Dz]
  split <;> omega
def EJ(ds:ByteArray)(dn:Nat)(dC:Nat->Clm)(A:List Rw):Td:=⟨ds,dn,dC,A.length,λi=>(A.getD i r0).1,λi=>(A.getD i r0).2⟩
def N9(T:Nat->Td)(n:Nat)(ds:ByteArray)(dn:Nat)(dC:Nat->Clm)(dr:Nat)(dm:Nat->Nat)(dR:Nat->Nat->Itm)(W:Nat->Itm)(n6:Nat):List Td×Int:=
 if EO dC dn W n6=0 then (D8 T (EJ ds dn dC (Ni dC dn dm dR W n6 dr)) n,0) else (C8 T n,EO dC dn W n6)
structure Nice(dn dr:Nat)(dm:Nat->Nat)(dR:Nat->Nat->Itm):Prop where
 n0:0<dn
 n1:dn<=1048576
 r1:dr<=1000000
 len:∀ k,k<dr->dm k=dn
 txt:∀ k,k<dr->∀ j,j<dn->(dR k j).s.size<=200
theorem ER.of{w:ο}{ar:Option Addr}{dr:Nat}{dm:Nat->Nat}{dR:Nat->Nat->Itm}(h:OL w ar dr dm dR){k:Nat}(hk:k<dr):∃ b off i c,ar=ς ⟨b,off,ν⟩/\w.cell? ⟨b,off+k,ν⟩=ς (σ i (dm k) c)/\Liv (λb=>b<w.heap.size) w (ER [σ i (dm k) c] (dm k,dR k))/\IL w i (dm k) (dR k):=by
 obtain⟨b,off,i,c,e,c0,hI,hs⟩:=h k hk;exact⟨b,off,i,c,e,c0,hI.lb.imp (λ_ h=>⟨_,_,rfl,h,hs⟩),hI⟩
theorem CV{α:Type}{A:List α}{i:Nat}{y:α}(h:i<A.length):A.getD i y∈A:=by
 have e:A.getD i y=A[i]:=by simp [h]
 rw [e];exact List.getElem_mem h
theorem Oc(a:Option Addr)(n c:Nat)(T:Nat->Td)(ds:ByteArray)(dn:Nat)(dC:Nat->Clm)(dr:Nat)(dm:Nat->Nat)(dR:Nat->Nat->Itm)(ac:Option Addr)(cc:Nat)(ar:Option Addr)(cr:Nat)(k0:Int)(tb:ByteArray)(a2:Option Addr)(n2 c2:Nat)(a3:Option Addr)(n3 c3:Nat)(col:ByteArray)(a5:Option Addr)(n5 c5:Nat)(a6:Option Addr)(n6 c6:Nat)(a7:Option Addr)(n7 c7:Nat)(W:Nat->Itm)(w:ο)(h:TL w a n T)(hC:CL w ac dn dC)(hR:OL w ar dr dm dR)(hW:IL w a6 n6 W)(hn:n<=1000000)(hF:Kg n T)(hN:Nice dn dr dm dR)(hds:ds.size<=1048576)(hok:AR W n6=true) :
 XR μ 77 #[χ #[σ a n c],χ #[τ ds,σ ac dn cc,σ ar dr cr],χ #[ι κ k0,τ tb,σ a2 n2 c2,σ a3 n3 c3,τ col,σ a5 n5 c5,σ a6 n6 c6,σ a7 n7 c7]] w (LN w (N9 T n ds dn dC dr dm dR W n6).1 (N9 T n ds dn dC dr dm dR W n6).2):=by
 have HF:Hid (Kg n T):=hF;have HN:Hid (Nice dn dr dm dR):=hN;have HOK:Hid (AR W n6=true):=hok;have hn1:=hN.n1;have hr1:=hN.r1;clear hF hN hok;obtain⟨jr,hir,hzr0,hzr1,hzr2⟩:=info_parts Tryz.infoRow;have HIr:Hid (Tryz.prog.info? 60=ς jr):=hir;clear hir;have hbU:υ w.heap.size w ((((w.alloc (γ #[σ a n c] 45)).alloc (γ #[τ ds,σ ac dn cc,σ ar dr cr] 100)).alloc (γ #[ι κ k0,τ tb,σ a2 n2 c2,σ a3 n3 c3,τ col,σ a5 n5 c5,σ a6 n6 c6,σ a7 n7 c7] 64)).alloc (γ #[σ ν 0 0] 45)):=AA (A7 _ _ _ _) (AE _ _);have hsU:((((w.alloc (γ #[σ a n c] 45)).alloc (γ #[τ ds,σ ac dn cc,σ ar dr cr] 100)).alloc (γ #[ι κ k0,τ tb,σ a2 n2 c2,σ a3 n3 c3,τ col,σ a5 n5 c5,σ a6 n6 c6,σ a7 n7 c7] 64)).alloc (γ #[σ ν 0 0] 45)).heap.size=w.heap.size+4:=by rw [ω,ω,ω,ω]
 have hq0:((((w.alloc (γ #[σ a n c] 45)).alloc (γ #[τ ds,σ ac dn cc,σ ar dr cr] 100)).alloc (γ #[ι κ k0,τ tb,σ a2 n2 c2,σ a3 n3 c3,τ col,σ a5 n5 c5,σ a6 n6 c6,σ a7 n7 c7] 64)).alloc (γ #[σ ν 0 0] 45)).heap[w.heap.size]?=ς (γ #[σ a n c] 45 (0,0)):=AC (AC (AC (η w _) (AE _ _)) (AE _ _)) (AE _ _);have hq1:((((w.alloc (γ #[σ a n c] 45)).alloc (γ #[τ ds,σ ac dn cc,σ ar dr cr] 100)).alloc (γ #[ι κ k0,τ tb,σ a2 n2 c2,σ a3 n3 c3,τ col,σ a5 n5 c5,σ a6 n6 c6,σ a7 n7 c7] 64)).alloc (γ #[σ ν 0 0] 45)).heap[w.heap.size+1]?=ς (γ #[τ ds,σ ac dn cc,σ ar dr cr] 100 (0,0)):=by
  have q:=η (w.alloc (γ #[σ a n c] 45)) (γ #[τ ds,σ ac dn cc,σ ar dr cr] 100);rw [ω] at q;exact AC (AC q (AE _ _)) (AE _ _)
 have hq2:((((w.alloc (γ #[σ a n c] 45)).alloc (γ #[τ ds,σ ac dn cc,σ ar dr cr] 100)).alloc (γ #[ι κ k0,τ tb,σ a2 n2 c2,σ a3 n3 c3,τ col,σ a5 n5 c5,σ a6 n6 c6,σ a7 n7 c7] 64)).alloc (γ #[σ ν 0 0] 45)).heap[w.heap.size+1+1]?=ς (γ #[ι κ k0,τ tb,σ a2 n2 c2,σ a3 n3 c3,τ col,σ a5 n5 c5,σ a6 n6 c6,σ a7 n7 c7] 64 (0,0)):=by
  have q:=η ((w.alloc (γ #[σ a n c] 45)).alloc (γ #[τ ds,σ ac dn cc,σ ar dr cr] 100)) (γ #[ι κ k0,τ tb,σ a2 n2 c2,σ a3 n3 c3,τ col,σ a5 n5 c5,σ a6 n6 c6,σ a7 n7 c7] 64);rw [ω,ω] at q;exact AC q (AE _ _)
 have hq3:((((w.alloc (γ #[σ a n c] 45)).alloc (γ #[τ ds,σ ac dn cc,σ ar dr cr] 100)).alloc (γ #[ι κ k0,τ tb,σ a2 n2 c2,σ a3 n3 c3,τ col,σ a5 n5 c5,σ a6 n6 c6,σ a7 n7 c7] 64)).alloc (γ #[σ ν 0 0] 45)).heap[w.heap.size+1+1+1]?=ς (γ #[σ ν 0 0] 45 (0,0)):=by
  have q:=η (((w.alloc (γ #[σ a n c] 45)).alloc (γ #[τ ds,σ ac dn cc,σ ar dr cr] 100)).alloc (γ #[ι κ k0,τ tb,σ a2 n2 c2,σ a3 n3 c3,τ col,σ a5 n5 c5,σ a6 n6 c6,σ a7 n7 c7] 64)) (γ #[σ ν 0 0] 45);rw [ω,ω,ω] at q;exact q
 obtain⟨cd,hcd⟩:∃ cd,EO dC dn W n6=cd:=⟨_,rfl⟩;have HCW:=Gt ac dn cc dC a6 n6 c6 W ((((w.alloc (γ #[σ a n c] 45)).alloc (γ #[τ ds,σ ac dn cc,σ ar dr cr] 100)).alloc (γ #[ι κ k0,τ tb,σ a2 n2 c2,σ a3 n3 c3,τ col,σ a5 n5 c5,σ a6 n6 c6,σ a7 n7 c7] 64)).alloc (γ #[σ ν 0 0] 45)) (hC.later hbU) (hW.later hbU) hn1 HOK.out;rw [hcd] at HCW;have HCD:Hid (EO dC dn W n6=cd):=hcd;clear hcd;obtain⟨p0,-⟩:=AN hq0;obtain⟨p1,p2,p3,-⟩:=AX hq1;obtain⟨-,-,-,-,-,-,p6,-⟩:=Ak hq2;by_cases h0:cd=0
 rotate_left
 ·
  have n0:(cd != 0)=true:=by simpa using h0
  have HA:Hid (N9 T n ds dn dC dr dm dR W n6=(C8 T n,cd)):=by show _=_;unfold N9;rw [HCD.out,if_neg h0]
  clear h0;go_enter Tryz.func77,Tryz.ntmps77
  go_wp2_with (first | (go_at_call 79;refine HCW.mono ?_;rintro e w1 ⟨rfl,hb1⟩;have r0:=AC hq0 hb1;have r3:=AC hq3 hb1;obtain⟨m0,-⟩:=AN r0) | (go_at_call 74;refine(CQ a n c T _ (h.later (AA hbU hb1)) (by omega) HF.out).mono ?_;rintro e w2 ⟨a8,c8,rfl,hL8,hb8⟩;have s2:=AC r3 hb8;obtain⟨m2,f2⟩:=AN s2))
  refine XL (AF Tryz.results77 _ _ (w.heap.size+1+1+1) 45 _ (0,0) _ rfl (CA s2 _) Tryz.underlying45 rfl (by kernel_rfl)) rfl ?_;rw [HA.out];exact BI (AA hbU hb1) hL8 hb8 (by omega) (by have:=hb1.size;omega) _
 subst h0;go_enter Tryz.func77,Tryz.ntmps77
 go_wp2_with (first | (go_at_call 79;refine HCW.mono ?_;rintro e w1 ⟨rfl,hb1⟩;have r0:=AC hq0 hb1;have r1:=AC hq1 hb1;have r2:=AC hq2 hb1;have r3:=AC hq3 hb1;obtain⟨m1,m2,m3,-⟩:=AX (AC r1 (AE w1 (γ #[] 60)))))
 have hb10:=AA hbU hb1;have hs1:=hb1.size;have hO0:(w1.alloc (γ #[] 60)).ownsRow w1.heap.size 60 1 (σ (ς ⟨w1.heap.size,0,ν⟩) 0 0) 0 []:=Xb w1 #[] 0 (XK _) (by unfold maxLen;omega) rfl;go_loopw [9,11,26] (λv _ i wr=>∃ (k:Nat) (A:List Rw) (g cap:Nat) (f:Nat->List XU),k<=dr/\i=ι κ k/\v=σ (ς ⟨g,0,ν⟩) A.length cap/\Ni dC dn dm dR W n6 k=A/\RO w1.heap.size (λb=>b<w.heap.size) wr (σ (ς ⟨g,0,ν⟩) A.length cap) A.length (λi=>A.getD i _root_.Go.Proofs.YtfnfdllflgmhnaaGreatDoor.r0) f/\υ w1.heap.size w1 wr) (λ_ _ i _=>dr - (XX i).toNat)
 case atStart=>exact⟨0,[],w1.heap.size,0,λ_=>[],by omega,rfl,rfl,rfl,GO.nil hO0,AE _ _⟩
 case round=>
  obtain⟨k,A,g,cap,f,hk,rfl,rfl,hdl,hRO,hbr⟩:=hrel;have HDL:Hid (Ni dC dn dm dR W n6 k=A):=hdl;have hAl:A.length<=k:=by rw [←hdl];exact KX
  clear hdl;have hbw:=AA hb10 hbr;have hsr:=hbr.size;have q0:=AC r0 hbr;have q1:=AC r1 hbr;have q2:=AC r2 hbr;have q3:=AC r3 hbr;obtain⟨u1,u2,u3,uf1,uf2,uf3⟩:=AX q1;obtain⟨-,-,-,-,-,-,u6,-⟩:=Ak q2;have hgl:=hRO.own.lt g rfl;by_cases hlt:k<dr
  ·
   obtain⟨bR,offR,ai,ci,rfl,d1,hLE,hI⟩:=ER.of hR hlt;have hmk:=HN.out.len k hlt;have d2:=AB hbw d1;rw [hmk] at d2 hI;have HLE:Hid (∀ W',υ w.heap.size w W'->Liv (λb=>b<w.heap.size) W' (ER [σ ai dn ci] (dm k,dR k))):=λW' hW'=>by
    have:=hLE.later hW';rwa [show σ ai (dm k) ci=σ ai dn ci from by rw [hmk]] at this
   clear hmk d1 hLE;have hkr:(k:Int)<dr:=by omega
   have HFT:=Lh ac dn cc dC ai ci (dR k) a6 n6 c6 W wr (hC.later hbw) (hI.later hbw) (hW.later hbw) hn1 HOK.out HCD.out (HN.out.txt k hlt);have HST:Hid (Ni dC dn dm dR W n6 (k+1)=A ++ Ez (!C5 dC dn (dR k) W n6) (dm k,dR k)):=by show _=_;rw [Ni,HDL.out]
   obtain⟨fb,hfb⟩:∃ fb,C5 dC dn (dR k) W n6=fb:=⟨_,rfl⟩;rw [hfb] at HFT HST;clear hfb;cases fb
   ·
    go_wp2_with (first | (at_builtin;have _h:=hb4;refine XY _ rfl _ _ _ rfl w1.heap.size 60 jr (σ ν 0 0) 1 24 Tryz.underlying36 HIr.out hzr0 hzr1 hzr2 rfl (by omega) (σ (ς ⟨g,0,ν⟩) A.length cap) A.length (CH f A.length) rfl (hRO4.later (AE _ _)).own ⟨w4.heap.size,0,ν⟩ 1 1 [σ ai dn ci] rfl rfl (XP (η w4 _)) (Bu _ rfl) (by omega) (by unfold maxLen;omega) (by omega) (by have:=hb4.size;simp;omega) _ rfl ?_;intro g8 cap8 w8 hO8 hgr8 hat8 hlt8) | (go_at_call 46;refine HFT.mono ?_;rintro e w4 ⟨rfl,hb4⟩;have hRO4:=hRO.later hb4))
    have hL4:Liv (λb=>b<w.heap.size/\ς b≠(σ (ς ⟨g,0,ν⟩) A.length cap).ownBlock) w4 (ER [σ ai dn ci] (dm k,dR k)):=(HLE.out _ (AA hbw hb4)).wide (λb hx _=>⟨hx,by show ς b≠ς g;intro e2;have e3:b=g:=XM e2;omega⟩);have hP:=GO.snoc (x:=(dm k,dR k)) (hRO4.later (AE _ _)) (c:=[σ ai dn ci]) rfl (hL4.later (AE _ _)) hO8 hgr8 hat8;have hb8:=gB (AA (AA hbr hb4) (AE _ _)) (r:=g) hgr8 hgl.1;have eA:(A ++ [(dm k,dR k)]).length=A.length+1:=by simp
    go_roundw
    case rel=>exact⟨k+1,A ++ [(dm k,dR k)],g8,cap8,_,by omega,by go_num,by rw [eA],by rw [HST.out];rfl,hP,hb8⟩
    case measure=>simp [XX];omega
   ·
    go_wp2_with (go_at_call 46;refine HFT.mono ?_;rintro e w4 ⟨rfl,hb4⟩)
    go_roundw
    case rel=>exact⟨k+1,A,g,cap,f,by omega,by go_num,rfl,by rw [HST.out];simp [Ez],hRO.later hb4,AA hbr hb4⟩
    case measure=>simp [XX];omega
  ·
   obtain rfl:k=dr:=by omega
   have HA:Hid (N9 T n ds dn dC k dm dR W n6=(D8 T (EJ ds dn dC A) n,0)):=by show _=_;unfold N9;rw [HCD.out,if_pos rfl,HDL.out]
   have HAM:Hid (∀ i,i<A.length->(A.getD i _root_.Go.Proofs.YtfnfdllflgmhnaaGreatDoor.r0).1=dn/\∀ j,j<dn->((A.getD i _root_.Go.Proofs.YtfnfdllflgmhnaaGreatDoor.r0).2 j).s.size<=200):=λi hi=>by
    have:=CV (y:=_root_.Go.Proofs.YtfnfdllflgmhnaaGreatDoor.r0) hi;rw [←HDL.out] at this ⊢;exact KW (P:=λx=>x.1=dn/\∀ j,j<dn->(x.2 j).s.size<=200) (λj hj=>⟨HN.out.len j hj,HN.out.txt j hj⟩) _ this
   have qY:(wr.setCell ⟨w.heap.size+1,2,ν⟩ (σ (ς ⟨g,0,ν⟩) A.length cap)).heap[w.heap.size+1]?=ς (γ #[τ ds,σ ac dn cc,σ (ς ⟨g,0,ν⟩) A.length cap] 100 (0,0)):=π _ _ 2 _ _ _ q1;have hbY:υ w.heap.size w (wr.setCell ⟨w.heap.size+1,2,ν⟩ (σ (ς ⟨g,0,ν⟩) A.length cap)):=Al hbw (by omega);have hsY:(wr.setCell ⟨w.heap.size+1,2,ν⟩ (σ (ς ⟨g,0,ν⟩) A.length cap)).heap.size=wr.heap.size:=Xl _ _ _;obtain⟨y1,y2,y3,-⟩:=AX qY;obtain⟨y0,-⟩:=AN (AS (i:=2) (v:=σ (ς ⟨g,0,ν⟩) A.length cap) q0 (show w.heap.size≠w.heap.size+1 by omega));have q3Y:=AS (B:=w.heap.size+1) (i:=2) (v:=σ (ς ⟨g,0,ν⟩) A.length cap) q3 (by omega);obtain⟨aO,cO,eO,hOL⟩:=RO.ol (hRO.set (B:=w.heap.size+1) (i:=2) (u:=σ (ς ⟨g,0,ν⟩) A.length cap) (by omega) (by omega));obtain⟨rfl,rfl⟩:ς ⟨g,0,ν⟩=aO/\cap=cO:=by simpa using eO
   have HSM:Hid (Sm3 (EJ ds dn dC A)):=⟨hds,⟨hn1,λj hj=>by obtain⟨_,_,_,_,_,hz⟩:=hC j hj;exact hz⟩,⟨by show A.length<=_;omega,λj hj=>⟨by show (A.getD j _).1<=_;rw [(HAM.out j hj).1];exact hn1,λq hq=>by
    have e1:=HAM.out j hj;have e2:q<dn:=by rw [←e1.1];exact hq
    have:=e1.2 q e2;show ((A.getD j _).2 q).s.size<=_
    omega⟩⟩⟩
   have HNN:Hid (0<(EJ ds dn dC A).n/\∀ i,i<(EJ ds dn dC A).r->0<(EJ ds dn dC A).m i):=⟨HN.out.n0,λi hi=>by show 0<(A.getD i _).1;rw [(HAM.out i hi).1];exact HN.out.n0⟩;go_wp2_with (first | (go_at_call 132;refine(EZ a n c T ds dn dC A.length (λi=>(A.getD i _root_.Go.Proofs.YtfnfdllflgmhnaaGreatDoor.r0).1) (λi=>(A.getD i _root_.Go.Proofs.YtfnfdllflgmhnaaGreatDoor.r0).2) ac cc (ς ⟨g,0,ν⟩) cap (EJ ds dn dC A) rfl _ (h.later hbY) (hC.later hbY) hOL HSM.out hn HF.out HNN.out).mono ?_;rintro e w2 ⟨a8,c8,rfl,hL8,hb8⟩;have s2:=AC q3Y hb8;obtain⟨z2,f2⟩:=AN s2))
   refine XL (AF Tryz.results77 _ _ (w.heap.size+1+1+1) 45 _ (0,0) _ rfl (CA s2 _) Tryz.underlying45 rfl (by kernel_rfl)) rfl ?_;rw [HA.out];exact Cm hbY hL8 hb8 (by omega) (by omega) 0
def Dg(R:Nat->Nat->Itm)(m:Int)(s:ByteArray):Nat->Nat
 | 0=>0
 | r+1=>if Dg R m s r=r/\BP (R r 0).m (R r 0).s m s<0 then r+1 else Dg R m s r
theorem Gv{R:Nat->Nat->Itm}{m:Int}{s:ByteArray}:∀ {r:Nat},Dg R m s r<=r
 | 0=>XK _
 | r+1=>by
  rw [Dg];have:=Gv (R:=R) (m:=m) (s:=s) (r:=r);split <;> omega
theorem Ku{R:Nat->Nat->Itm}{m:Int}{s:ByteArray}{k:Nat}(h1:Dg R m s k=k)(h2:¬BP (R k 0).m (R k 0).s m s<0):∀ r,k<r->Dg R m s r=k:=by
 intro r hr;induction r with
 | zero=>omega
 | succ r ih=>
  rw [Dg];by_cases e:k=r
  · subst e;rw [if_neg (λh=>h2 h.2),h1]
  · have:=ih (by omega);rw [this,if_neg (λh=>e h.1)]
theorem OL.cells{w:ο}{ad:Addr}{n:Nat}{m:Nat->Nat}{O:Nat->Nat->Itm}(h:OL w (ς ad) n m O):∃ q:Nat->List XU,(∀ k,k<n->(q k).length=1)/\(∀ k,k<n->∀ u∈q k,u.oneCell'=true)/\(∀ k,k<n->∀ u,(q k)[0]?=ς u->w.cell? ⟨ad.block,ad.off+k,ν⟩=ς u)/\∀ k,k<n->Liv (λb=>b<w.heap.size) w (ER (q k) (m k,O k)):=by
 have key:∀ k,∃ v:XU,k<n->(v.oneCell'=true/\w.cell? ⟨ad.block,ad.off+k,ν⟩=ς v/\Liv (λb=>b<w.heap.size) w (ER [v] (m k,O k))):=λk=>by
  by_cases hk:k<n
  · obtain⟨b,off,i,c,e,c0,hI,hs⟩:=h k hk;obtain rfl:ad=⟨b,off,ν⟩:=XM e;exact⟨σ i (m k) c,λ_=>⟨rfl,c0,hI.lb.imp (λ_ h=>⟨_,_,rfl,h,hs⟩)⟩⟩
  · exact⟨β false,λh=>absurd h hk⟩
 refine⟨λk=>[(key k).choose],λk _=>rfl,λk hk u hu=>?_,λk hk u hu=>?_,λk hk=>((key k).choose_spec hk).2.2⟩
 ·
  simp only [List.mem_cons,List.not_mem_nil,or_false] at hu
  rw [hu];exact((key k).choose_spec hk).1
 · obtain rfl:(key k).choose=u:=XM hu;exact((key k).choose_spec hk).2.1
theorem GO.app{α:Type}{T sz G:Nat}{D:Nat->Prop}{E:List XU->α->ο->Prop}{w w':ο}{v:XU}{n k g' cap':Nat}{x:Nat->α}{f c:Nat->List XU}(h:GO T sz G D E w v n x f)(hc:∀ i,i<k->(c i).length=sz)(hl:∀ i,i<k->Liv (λb=>D b/\ς b≠v.ownBlock) w (E (c i) (x (n+i))))
 (hO:w'.ownsRow G T sz (σ (ς ⟨g',0,ν⟩) (n+k) cap') (n+k) (CH f n ++ CH c k)) (hgr:w.grownBy w' v.ownBlock) (hDG:∀ b,D b->b<G) :
 GO T sz G D E w' (σ (ς ⟨g',0,ν⟩) (n+k) cap') (n+k) x (λi=>if i<n then f i else c (i - n)):=by
 have key:∀ {P:ο->Prop},Liv (λb=>D b/\ς b≠v.ownBlock) w P->Liv (λb=>D b/\ς b≠(σ (ς ⟨g',0,ν⟩) (n+k) cap').ownBlock) w' P:=λhp=>by
  have h2:=hp.grown hgr (λb hb=>hb.2);refine h2.wide (λb hb _=>⟨hb.1,?_⟩);show ς b≠ς g'
  intro e2;have e3:b=g':=XM e2;have h3:=(hO.lt g' rfl).1;have h4:=hDG b hb.1;omega
 have ef:∀ j,j<=k->CH (λi=>if i<n then f i else c (i - n)) (n+j)=CH f n ++ CH c j:=by
  intro j;induction j with
  | zero=>
   intro _;rw [Xm,NY,List.append_nil];exact FC (λq hq=>by simp [hq])
  | succ j ih=>
   intro hj;rw [←Nat.add_assoc,Cl,ih (by omega),Cl,if_neg (by omega),List.append_assoc];congr 2
   rw [show n+j - n=j from by omega]
 refine⟨?_,λi hi=>?_,λi hi=>?_⟩
 · rw [ef k (XK _)];exact hO
 ·
  show (if i<n then f i else c (i - n)).length=sz
  split
  · rename_i h1;exact h.len i h1
  · exact hc _ (by omega)
 ·
  show Liv _ _ (E (if i<n then f i else c (i - n)) (x i))
  split
  · rename_i h1;exact key (h.liv i h1)
  · have:=key (hl (i - n) (by omega));rwa [show n+(i - n)=i from by omega] at this
def DM(dm:Nat->Nat)(dR:Nat->Nat->Itm)(x:Rw)(k:Nat):Nat->Rw:=λi=>if i<k then (dm i,dR i) else if i=k then x else (dm (i - 1),dR (i - 1))
