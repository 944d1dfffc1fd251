import Derived.Test.YtfnfdllflgmhnaaGreatDoorVi
import Derived.Test.YtfnfdllflgmhnaaGreatDoorEe
import Derived.Test.YtfnfdllflgmhnaaGreatDoorRc
open Array renaming getElem?_eq_some_iff → XS
open ByteArray renaming empty → XN
open Go renaming Calls → XR, Value → XU, World → ο, bodyPost_ret → XL, cell_of_row → ε, heap_alloc_new → η, results_cell_row → Xd, wpList_append_lies → XY, frozen_of_row → ζ, heap_setCell_same → π, results_tmp2 → Xg
open Go.Ending renaming returned → ρ
open Go.IntKind renaming i64 → κ
open Go.Obj renaming cells → γ
open Go.Proofs.Tryz renaming prog → μ
open Go.RowKit renaming Below → υ, intOf → XX
open Go.RowKit.Below renaming refl → Xa
open Go.Value renaming agg → χ, int → ι, slice → σ, string → τ, tuple → θ
open Go.World renaming news_of_block → XP, ownsRow_made → Xb, size_alloc → ω
open List renaming length_append → XQ
open Nat renaming le_refl → XK, zero_add → XT, zero_le → XZ, add_zero → Xm, le_trans → Xe, not_lt_zero → Xj
open Option renaming none → ν, some → ς
open Option.some renaming inj → XM
open Or renaming inl → Xc, inr → Xi
namespace Go.Proofs.YtfnfdllflgmhnaaGreatDoor
open Go.RowKit Go.Maps Go.WideMaps
set_option maxRecDepth 20000
set_option maxHeartbeats 16000000
def Er(n:Nat)(C:Nat->Clm)(F:Nat->Itm):Prop:=∀ j,j<n->(F j).s.size<=200/\CU (F j)/\(F j).o=(C j).t
theorem KK(ac:Option Addr)(n cc:Nat)(C:Nat->Clm)(mb:Nat)(ar:Option Addr)(cr:Nat)(R:Nat->Itm)(a:Option Addr)(m c:Nat)(I:Nat->Itm)(w:ο)(hP:PlAt w mb n C)(hdp:∀ k,k<n->Ah C (C k).s k=false)(hR:IL w ar n R)(hI:IL w a m I)(hm:m<=100)(hx:ex I m=ς 1)(hk0:(ck C n I m).2=0)(hg:Er n C R) :
 XR μ 119 #[χ #[σ ac n cc,.map (ς mb)],σ a m c,σ ar n cr] w λe w'=>e=ρ (χ #[ι κ (Cn C n R I m).o,ι κ (Cn C n R I m).m,τ (Cn C n R I m).s])/\υ w.heap.size w w':=by
 have hbU:υ w.heap.size w (((w.alloc (γ #[σ ac n cc,.map (ς mb)] 117)).alloc (γ #[σ ar n cr] 60)).alloc (γ #[ι κ 0,ι κ 0,τ ⟨#[]⟩] 94)):=A7 _ _ _ _;have hq0:(((w.alloc (γ #[σ ac n cc,.map (ς mb)] 117)).alloc (γ #[σ ar n cr] 60)).alloc (γ #[ι κ 0,ι κ 0,τ ⟨#[]⟩] 94)).heap[w.heap.size]?=ς (γ #[σ ac n cc,.map (ς mb)] 117 (0,0)):=AC (AC (η w _) (AE _ _)) (AE _ _);have hq1:(((w.alloc (γ #[σ ac n cc,.map (ς mb)] 117)).alloc (γ #[σ ar n cr] 60)).alloc (γ #[ι κ 0,ι κ 0,τ ⟨#[]⟩] 94)).heap[w.heap.size+1]?=ς (γ #[σ ar n cr] 60 (0,0)):=by
  have q:=η (w.alloc (γ #[σ ac n cc,.map (ς mb)] 117)) (γ #[σ ar n cr] 60);rw [ω] at q;exact AC q (AE _ _)
 have hq2:(((w.alloc (γ #[σ ac n cc,.map (ς mb)] 117)).alloc (γ #[σ ar n cr] 60)).alloc (γ #[ι κ 0,ι κ 0,τ ⟨#[]⟩] 94)).heap[w.heap.size+1+1]?=ς (γ #[ι κ 0,ι κ 0,τ ⟨#[]⟩] 94 (0,0)):=by
  have q:=η ((w.alloc (γ #[σ ac n cc,.map (ς mb)] 117)).alloc (γ #[σ ar n cr] 60)) (γ #[ι κ 0,ι κ 0,τ ⟨#[]⟩] 94);rw [ω,ω] at q;exact q
 have HW:=TD n C mb ar cr R (w.heap.size+1) w.heap.size a m c I _ (hP.later hbU) hdp (hR.later hbU) (ε _ _ 0 _ _ _ hq1) (ε _ _ 1 _ _ _ hq0) (hI.later hbU) hm hx hk0 (λj hj=>(hg j hj).1) (λj hj=>(hg j hj).2);obtain⟨x,hxx⟩:∃ x,Cn C n R I m=x:=⟨_,rfl⟩;rw [hxx] at HW ⊢;obtain⟨xo,xm,xs⟩:=x;simp only at HW ⊢
 clear hxx hx hk0 hdp hg;go_enter Tryz.func119,Tryz.ntmps119
 go_wp2_with (go_at_call 165;refine HW.mono ?_;rintro e w1 ⟨rfl,hb1⟩;have r2:=AC (AC hq2 hb1) (AE w1 (γ #[ι κ xo,ι κ xm,τ xs] 94));obtain⟨m0,m1,m2,f0,f1,f2⟩:=AX r2)
 refine XL (v:=χ #[ι κ xo,ι κ xm,τ xs]) (Xd Tryz.results119 _ _ (w.heap.size+1+1) 94 _ (0,0) _ rfl (Cz r2 _ _ _) Tryz.underlying94 rfl (by kernel_rfl)) rfl ⟨rfl,BB (AA hbU (AA hb1 (AE _ _))) (by omega) _ _ _⟩
def Hu(C:Nat->Clm)(n:Nat)(m:Nat->Nat)(R:Nat->Nat->Itm)(W:Nat->Itm)(n6:Nat):Nat->List Rw
 | 0=>[]
 | k+1=>Hu C n m R W n6 k ++ Ez (C5 C n (R k) W n6) (m k,R k)
theorem Hf{C:Nat->Clm}{n:Nat}{m:Nat->Nat}{R:Nat->Nat->Itm}{W:Nat->Itm}{n6:Nat}:∀ {k:Nat},(Hu C n m R W n6 k).length<=k
 | 0=>by simp [Hu]
 | k+1=>by
  have ih:=Hf (C:=C) (n:=n) (m:=m) (R:=R) (W:=W) (n6:=n6) (k:=k);simp only [Hu,XQ,Dz]
  split <;> omega
theorem KR{C:Nat->Clm}{n:Nat}{m:Nat->Nat}{R:Nat->Nat->Itm}{W:Nat->Itm}{n6:Nat}{P:Rw->Prop}:∀ {k:Nat},(∀ j,j<k->P (m j,R j))->∀ x∈Hu C n m R W n6 k,P x
 | 0,_,x,hx=>by cases hx
 | k+1,h,x,hx=>by
  simp only [Hu,List.mem_append] at hx
  rcases hx with hx | hx
  · exact KR (λj hj=>h j (by omega)) x hx
  · rw [Ee hx];exact h k (by omega)
theorem NM(ac:Option Addr)(n cc:Nat)(C:Nat->Clm)(mb:Nat)(ar:Option Addr)(dr cr:Nat)(dm:Nat->Nat)(dR:Nat->Nat->Itm)(a6:Option Addr)(n6 c6:Nat)(W:Nat->Itm)(w0 w:ο)(hb0:υ w0.heap.size w0 w)(hP:PlAt w mb n C)(hdp:∀ k,k<n->Ah C (C k).s k=false)(hR:OL w0 ar dr dm dR)(hW:IL w a6 n6 W)(hok:AR W n6=true)(hcw:EO C n W n6=0)(hN:Nice n dr dm dR)(hg:∀ k,k<dr->Er n C (dR k)) :
 XR μ 118 #[χ #[σ ac n cc,.map (ς mb)],σ ar dr cr,σ a6 n6 c6] w λe w'=>∃ a' c',e=ρ (σ a' (Hu C n dm dR W n6 dr).length c')/\OD (λb=>b<w0.heap.size∨w.heap.size<=b) w' a' (Hu C n dm dR W n6 dr)/\υ w.heap.size w w':=by
 have HDP:Hid (∀ k,k<n->Ah C (C k).s k=false):=hdp;have HN:Hid (Nice n dr dm dR):=hN;have HG:Hid (∀ k,k<dr->Er n C (dR k)):=hg;have HOK:Hid (AR W n6=true/\EO C n W n6=0):=⟨hok,hcw⟩;have hs00:=hb0.size;have hn1:=hN.n1;have hr1:=hN.r1;clear hdp hN hg hok hcw;obtain⟨jr,hir,hzr0,hzr1,hzr2⟩:=info_parts Tryz.infoRow;have HIr:Hid (Tryz.prog.info? 60=ς jr):=hir;clear hir;have hb1:=AE w (γ #[σ ac n cc,.map (ς mb)] 117);have hq0:=η w (γ #[σ ac n cc,.map (ς mb)] 117);have hs1:(w.alloc (γ #[σ ac n cc,.map (ς mb)] 117)).heap.size=w.heap.size+1:=ω _ _;have hO0:((w.alloc (γ #[σ ac n cc,.map (ς mb)] 117)).alloc (γ #[] 60)).ownsRow (w.heap.size+1) 60 1 (σ (ς ⟨w.heap.size+1,0,ν⟩) 0 0) 0 []:=by
  have q:=Xb (base:=w.heap.size+1) (e:=60) (size:=1) (w.alloc (γ #[σ ac n cc,.map (ς mb)] 117)) #[] 0 (by rw [hs1];exact XK _) (by unfold maxLen;omega) rfl;rw [hs1] at q;exact q
 have hb2:=AE (w.alloc (γ #[σ ac n cc,.map (ς mb)] 117)) (γ #[] 60);go_enter Tryz.func118,Tryz.ntmps118
 go_wp2;go_loopw [7,9,13] (λv _ i wr=>∃ (k:Nat) (A:List Rw) (g cap:Nat) (f:Nat->List XU),k<=dr/\i=ι κ k/\v=σ (ς ⟨g,0,ν⟩) A.length cap/\Hu C n dm dR W n6 k=A/\RO (w.heap.size+1) (λb=>b<w0.heap.size) wr (σ (ς ⟨g,0,ν⟩) A.length cap) A.length (λi=>A.getD i r0) f/\υ (w.alloc (γ #[σ ac n cc,.map (ς mb)] 117)).heap.size (w.alloc (γ #[σ ac n cc,.map (ς mb)] 117)) wr) (λ_ _ i _=>dr - (XX i).toNat)
 case atStart=>exact⟨0,[],w.heap.size+1,0,λ_=>[],by omega,rfl,rfl,rfl,GO.nil hO0,hb2⟩
 case round=>
  obtain⟨k,A,g,cap,f,hk,rfl,rfl,hft,hRO,hbr⟩:=hrel;have HFT:Hid (Hu C n dm dR W n6 k=A):=hft;have hAl:A.length<=k:=by rw [←hft];exact Hf
  clear hft;have hbw:=AA hb1 hbr;have hsr:=hbr.size;have q0:=AC hq0 hbr;obtain⟨c0,c1⟩:wr.cell? ⟨w.heap.size,0,ν⟩=ς (σ ac n cc)/\wr.cell? ⟨w.heap.size,1,ν⟩=ς (.map (ς mb)):=⟨ε _ _ 0 _ _ _ q0,ε _ _ 1 _ _ _ q0⟩;have hgl:=hRO.own.lt g rfl;by_cases hlt:k<dr
  rotate_left
  ·
   obtain rfl:k=dr:=by omega
   obtain⟨a',c',e',hOD⟩:=RO.od (D':=λb=>b<w0.heap.size∨w.heap.size<=b) hRO (λb hx=>Xc hx) (λb hx=>Xi (by omega));obtain⟨rfl,rfl⟩:ς ⟨g,0,ν⟩=a'/\cap=c':=by simpa using e'
   go_wp2;go_ret
   rw [HFT.out];exact⟨_,_,rfl,hOD,hbw⟩
  obtain⟨bR,offR,ai,ci,rfl,d1,hLE,hI⟩:=ER.of hR hlt;have hmk:=HN.out.len k hlt;have d2:=AB (AA hb0 hbw) d1;rw [hmk] at d2 hI;have HLE:Hid (∀ W',υ w0.heap.size w0 W'->Liv (λb=>b<w0.heap.size) W' (ER [σ ai n ci] (dm k,dR k))):=λW' hW'=>by
   have:=hLE.later hW';rwa [show σ ai (dm k) ci=σ ai n ci from by rw [hmk]] at this
  clear hmk d1 hLE;have hkr:(k:Int)<dr:=by omega
  have HST0:Hid (Hu C n dm dR W n6 (k+1)=A ++ Ez (C5 C n (dR k) W n6) (dm k,dR k)):=by show _=_;rw [Hu,HFT.out]
  by_cases h6:n6=0
  ·
   subst h6;have HST:Hid (Hu C n dm dR W 0 (k+1)=A ++ Ez true (dm k,dR k)):=by
    show _=_
    rw [HST0.out];rfl
   go_wp2_with ((at_builtin;refine XY _ rfl _ _ _ rfl (w.heap.size+1) 60 jr (σ ν 0 0) 1 24 Tryz.underlying36 HIr.out hzr0 hzr1 hzr2 rfl (by omega) (σ (ς ⟨g,0,ν⟩) A.length cap) A.length (CH f A.length) rfl (hRO.later (AE _ _)).own ⟨wr.heap.size,0,ν⟩ 1 1 [σ ai n ci] rfl rfl (XP (η wr _)) (Bu _ rfl) (by omega) (by unfold maxLen;omega) (by omega) (by simp;omega) _ rfl ?_;intro g8 cap8 w8 hO8 hgr8 hat8 hlt8))
   have hL4:Liv (λb=>b<w0.heap.size/\ς b≠(σ (ς ⟨g,0,ν⟩) A.length cap).ownBlock) wr (ER [σ ai n ci] (dm k,dR k)):=(HLE.out _ (AA hb0 hbw)).wide (λb hx _=>⟨hx,by show ς b≠ς g;intro e2;have e3:b=g:=XM e2;omega⟩);have hP8:=GO.snoc (x:=(dm k,dR k)) (hRO.later (AE _ _)) (c:=[σ ai n ci]) rfl (hL4.later (AE _ _)) hO8 hgr8 hat8;have hb8:=gB (AA (hbr) (AE _ _)) (r:=g) hgr8 (by omega);have eA:(A ++ [(dm k,dR k)]).length=A.length+1:=by simp
   go_roundw
   case rel=>exact⟨k+1,A ++ [(dm k,dR k)],g8,cap8,_,by omega,by go_num,by rw [eA],by rw [HST.out];rfl,hP8,hb8⟩
   case measure=>simp [XX];omega
  ·
   obtain⟨h1,h2,h3⟩:=DA HOK.out.1 h6;have n0:((n6:Int) == 0)=false:=by simp;omega
   have HVL:=KK ac n cc C mb ai ci (dR k) a6 n6 c6 W wr (hP.later hbw) HDP.out (hI.later (AA hb0 hbw)) (hW.later hbw) h1 h3 (Nn HOK.out.2 h6) (HG.out k hlt);obtain⟨x,hx⟩:∃ x,Cn C n (dR k) W n6=x:=⟨_,rfl⟩;rw [hx] at HVL;obtain⟨xo,xm,xs⟩:=x;simp only at HVL
   have HFB:Hid (C5 C n (dR k) W n6=!decide (xm=0)):=by show _=_;unfold C5;rw [hx];simp [h6]
   clear hx h3 h6;by_cases e:xm=0
   ·
    subst e;have hfd:∀ v:ο,(Instr.field 94 (χ #[ι κ xo,ι κ 0,τ xs]) 1).run μ v=.ok (ι κ 0) v:=λv=>Tryz.fieldVal _ _ _ v;go_wp2_with (go_at_call 119;refine HVL.mono ?_;rintro e w4 ⟨rfl,hb4⟩)
    go_roundw
    case rel=>exact⟨k+1,A,g,cap,f,by omega,by go_num,rfl,by rw [HST0.out,HFB.out];simp [Ez],hRO.later hb4,AA hbr hb4⟩
    case measure=>simp [XX];omega
   ·
    have n1:(xm != 0)=true:=by simpa using e
    have HST:Hid (Hu C n dm dR W n6 (k+1)=A ++ Ez true (dm k,dR k)):=by
     show _=_
     rw [HST0.out,HFB.out];simp [e]
    clear e;have hfd:∀ v:ο,(Instr.field 94 (χ #[ι κ xo,ι κ xm,τ xs]) 1).run μ v=.ok (ι κ xm) v:=λv=>Tryz.fieldVal _ _ _ v;go_wp2_with (first | (at_builtin;have _h:=hb4;refine XY _ rfl _ _ _ rfl (w.heap.size+1) 60 jr (σ ν 0 0) 1 24 Tryz.underlying36 HIr.out hzr0 hzr1 hzr2 rfl (by omega) (σ (ς ⟨g,0,ν⟩) A.length cap) A.length (CH f A.length) rfl (hRO4.later (AE _ _)).own ⟨w4.heap.size,0,ν⟩ 1 1 [σ ai n ci] rfl rfl (XP (η w4 _)) (Bu _ rfl) (by omega) (by unfold maxLen;omega) (by omega) (by simp;omega) _ rfl ?_;intro g8 cap8 w8 hO8 hgr8 hat8 hlt8) | (go_at_call 119;refine HVL.mono ?_;rintro e w4 ⟨rfl,hb4⟩;have hRO4:=hRO.later hb4;have hss4:=hb4.size))
    have hL4:Liv (λb=>b<w0.heap.size/\ς b≠(σ (ς ⟨g,0,ν⟩) A.length cap).ownBlock) w4 (ER [σ ai n ci] (dm k,dR k)):=(HLE.out _ (AA hb0 (AA hbw hb4))).wide (λb hx _=>⟨hx,by show ς b≠ς g;intro e2;have e3:b=g:=XM e2;omega⟩);have hP8:=GO.snoc (x:=(dm k,dR k)) (hRO4.later (AE _ _)) (c:=[σ ai n ci]) rfl (hL4.later (AE _ _)) hO8 hgr8 hat8;have hb8:=gB (AA (AA hbr hb4) (AE _ _)) (r:=g) hgr8 (by omega);have eA:(A ++ [(dm k,dR k)]).length=A.length+1:=by simp
    go_roundw
    case rel=>exact⟨k+1,A ++ [(dm k,dR k)],g8,cap8,_,by omega,by go_num,by rw [eA],by rw [HST.out];rfl,hP8,hb8⟩
    case measure=>simp [XX];omega
set_option maxHeartbeats 4000000
def Do(X:Nat->Itm):Nat->Nat
 | 0=>0
 | k+1=>max (Do X k) (X k).s.size
theorem KI{X:Nat->Itm}:∀ {n:Nat},(∀ k,k<n->(X k).s.size<=1048576)->Do X n<=1048576
 | 0,_=>by simp [Do]
 | n+1,h=>by
  have:=KI (X:=X) (n:=n) (λk hk=>h k (by omega));have h2:=h n (by omega);rw [Do];omega
theorem KH{C:Nat->Clm}{n:Nat}{F:Nat->Itm}{m7:Nat->Nat}{O:Nat->Nat->Itm}:∀ {k:Nat},B7 C n F m7 O k=decide (200<Do (λi=>Cn C n F (O i) (m7 i)) k)
 | 0=>by simp [B7,Do]
 | k+1=>by
  rw [B7,KH (k:=k),Do];by_cases h1:200<Do (λi=>Cn C n F (O i) (m7 i)) k <;> by_cases h2:200<(Cn C n F (O k) (m7 k)).s.size <;> simp [h1,h2] <;> omega
theorem NJ(a:Option Addr)(m c:Nat)(X:Nat->Itm)(w:ο)(h:IL w a m X)(hm:m<=1048576) :
 XR μ 120 #[σ a m c] w λe w'=>e=ρ (ι κ (Do X m))/\υ w.heap.size w w':=by
 have hle:∀ k,k<=m->Do X k<=1048576:=λk hk=>KI (λj hj=>by obtain⟨_,_,_,_,_,_,hz⟩:=h j (by omega);exact hz);have HLE:Hid (∀ k,k<=m->Do X k<=1048576):=hle;clear hle;go_enter Tryz.func120,Tryz.ntmps120
 go_wp2;go_loopw [3,5,8] (λv _ i wr=>∃ k:Nat,k<=m/\i=ι κ k/\v=ι κ (Do X k)/\υ w.heap.size w wr) (λ_ _ i _=>m - (XX i).toNat)
 case atStart=>exact⟨0,XZ _,rfl,rfl,Xa _ _⟩
 case round=>
  obtain⟨k,hk,rfl,rfl,hb⟩:=hrel;by_cases hlt:k<m
  ·
   obtain⟨b,off,rfl,c0,c1,c2,hs⟩:=h.later hb k hlt;have hkm:(k:Int)<m:=by omega
   have HN:Hid (Do X (k+1)=max (Do X k) (X k).s.size):=rfl;have hl0:=HLE.out k (by omega);obtain⟨y,hy⟩:∃ y,Do X k=y:=⟨_,rfl⟩;rw [hy] at HN hl0 ⊢;clear hy;obtain⟨xo,xm,xs,hx⟩:∃ xo xm xs,X k=⟨xo,xm,xs⟩:=⟨_,_,_,rfl⟩;rw [hx] at HN c0 c1 c2 hs;simp only at HN c0 c1 c2 hs
   clear hx;go_wp2;go_roundw
   case rel=>exact⟨k+1,by omega,by go_num,by rw [HN.out];first | rfl | (congr 1;omega),AA hb (AE _ _)⟩
   case measure=>simp [XX];omega
  ·
   obtain rfl:k=m:=by omega
   go_wp2;go_ret
   exact⟨rfl,hb⟩
def PV(w:ο)(gv n q:Nat)(X:Nat->Itm):Prop:=∃ cur:Array XU,w.heap[gv]?=ς (γ cur 94 (0,0))/\cur.size=n * 3/\∀ i,i<q->cur[i * 3]?=ς (ι κ (X i).o)/\cur[i * 3+1]?=ς (ι κ (X i).m)/\cur[i * 3+2]?=ς (τ (X i).s)
theorem PV.later{w w':ο}{gv n q:Nat}{X:Nat->Itm}(h:PV w gv n q X)(hb:υ w.heap.size w w'):PV w' gv n q X:=by
 obtain⟨cur,h1,h2,h3⟩:=h;exact⟨cur,AC h1 hb,h2,h3⟩
theorem PV.cell{w:ο}{gv n q j:Nat}{X:Nat->Itm}(h:PV w gv n q X)(hj:j<n):∃ v0 v1 v2,w.cell? ⟨gv,j * 3,ν⟩=ς v0/\w.cell? ⟨gv,j * 3+1,ν⟩=ς v1/\w.cell? ⟨gv,j * 3+2,ν⟩=ς v2/\w.frozen? ⟨gv,j * 3,ν⟩=false/\w.frozen? ⟨gv,j * 3+1,ν⟩=false/\w.frozen? ⟨gv,j * 3+2,ν⟩=false:=by
 obtain⟨cur,h1,h2,-⟩:=h;obtain⟨v0,e0⟩:=there (A:=cur) (k:=j * 3) (by omega);obtain⟨v1,e1⟩:=there (A:=cur) (k:=j * 3+1) (by omega);obtain⟨v2,e2⟩:=there (A:=cur) (k:=j * 3+2) (by omega);exact⟨v0,v1,v2,(ε _ _ _ _ _ _ h1).trans e0,(ε _ _ _ _ _ _ h1).trans e1,(ε _ _ _ _ _ _ h1).trans e2,ζ _ _ _ _ _ h1,ζ _ _ _ _ _ h1,ζ _ _ _ _ _ h1⟩
theorem PV.set{w:ο}{gv n q:Nat}{X:Nat->Itm}{x:Itm}(h:PV w gv n q X)(hq:q<n)(hx:X q=x):PV (((w.setCell ⟨gv,q * 3,ν⟩ (ι κ x.o)).setCell ⟨gv,q * 3+1,ν⟩ (ι κ x.m)).setCell ⟨gv,q * 3+2,ν⟩ (τ x.s)) gv n (q+1) X:=by
 obtain⟨cur,h1,h2,h3⟩:=h;refine⟨_,π _ _ (q * 3+2) _ _ _ (π _ _ (q * 3+1) _ _ _ (π _ _ (q * 3) _ _ _ h1)),by simp [h2],λi hi=>?_⟩;by_cases e:i=q
 · subst e;rw [hx];refine⟨?_,?_,?_⟩ <;> simp [Array.getElem?_setIfInBounds] <;> omega
 ·
  obtain⟨a0,a1,a2⟩:=h3 i (by omega);simp only [Array.getElem?_setIfInBounds]
  refine⟨?_,?_,?_⟩
  · rw [if_neg (by omega),if_neg (by omega),if_neg (by omega)];exact a0
  · rw [if_neg (by omega),if_neg (by omega),if_neg (by omega)];exact a1
  · rw [if_neg (by omega),if_neg (by omega),if_neg (by omega)];exact a2
theorem PV.il{w:ο}{gv n:Nat}{X:Nat->Itm}(h:PV w gv n n X)(hs:∀ i,i<n->(X i).s.size<=1048576):IL w (ς ⟨gv,0,ν⟩) n X:=λk hk=>by
 obtain⟨cur,h1,h2,h3⟩:=h;obtain⟨a0,a1,a2⟩:=h3 k hk;refine⟨gv,0,rfl,?_,?_,?_,hs k hk⟩
 · rw [XT];exact(ε _ _ _ _ _ _ h1).trans a0
 · rw [XT];exact(ε _ _ _ _ _ _ h1).trans a1
 · rw [XT];exact(ε _ _ _ _ _ _ h1).trans a2
theorem OD.grown{D:Nat->Prop}{w w':ο}{a:Option Addr}{A:List Rw}{r:Option Nat}(h:OD D w a A)(hg:w.grownBy w' r)(hD:∀ b,D b->ς b≠r):OD D w' a A:=λk hk=>by
 obtain⟨b,off,i,c,e,hd,c0,hl⟩:=h k hk;exact⟨b,off,i,c,e,hd,(World.cell?_of_block (hg.block _ (World.block_lt_of_cell? w _ c0) (hD _ hd))).trans c0,hl.grown hg hD⟩
theorem QP{C:Nat->Clm}{n:Nat}{m:Nat->Nat}{R:Nat->Nat->Itm}{W:Nat->Itm}{n6:Nat}{m7:Nat->Nat}{O:Nat->Nat->Itm}{n7:Nat}:∀ k,JU C n R W n6 m7 O n7 k=(Hu C n m R W n6 k).map (λx=>Iu C n x.2 m7 O n7)/\JV C n R W n6 m7 O n7 k=(Hu C n m R W n6 k).any (λx=>B7 C n x.2 m7 O n7)
 | 0=>⟨rfl,rfl⟩
 | k+1=>by
  obtain⟨h1,h2⟩:=QP (C:=C) (n:=n) (m:=m) (R:=R) (W:=W) (n6:=n6) (m7:=m7) (O:=O) (n7:=n7) k;rw [JU,JV,Hu,List.map_append,List.any_append,h1,h2];rcases C5 C n (R k) W n6 <;> simp [Ez]
def RowsAt(w:ο)(lo gg n7 L:Nat)(f:Nat->List XU):Prop:=∃ B:Nat->Nat,(∀ i,i<L->f i=[σ (ς ⟨B i,0,ν⟩) n7 n7]/\lo<=B i/\B i≠gg/\∃ cur,w.heap[B i]?=ς (γ cur 94 (0,0))/\cur.size=n7 * 3)/\∀ i k,k<i->i<L->B k<B i
theorem RowsAt.nil(w:ο)(lo gg n7:Nat)(f:Nat->List XU):RowsAt w lo gg n7 0 f:=⟨λ_=>0,λi hi=>by omega,λi k _ hi=>by omega⟩
theorem RowsAt.snoc{wo v w8:ο}{lo gg n7 L g8:Nat}{f:Nat->List XU}(h:RowsAt wo lo gg n7 L f)(hlo:lo<=wo.heap.size)(hgg:gg<wo.heap.size)(hbx:υ wo.heap.size wo v)(hnew:∃ cur,v.heap[wo.heap.size]?=ς (γ cur 94 (0,0))/\cur.size=n7 * 3)(hgr:v.grownBy w8 (ς gg))(hat:ς gg=ς g8∨g8=v.heap.size):RowsAt w8 lo g8 n7 (L+1) (λi=>if i<L then f i else [σ (ς ⟨wo.heap.size,0,ν⟩) n7 n7]):=by
 obtain⟨B,h1,h2⟩:=h;obtain⟨cur,hn1,hn2⟩:=hnew;have hlt:∀ i,i<L->B i<wo.heap.size:=λi hi=>by
  obtain⟨-,-,-,c,hc,-⟩:=h1 i hi;exact(XS.1 hc).1
 have hsz:=hbx.size;have hnl:=(XS.1 hn1).1;have hg8:g8=gg∨g8=v.heap.size:=by
  rcases hat with e | e
  · exact Xc (XM e).symm
  · exact Xi e
 have hne:∀ b,b≠gg->ς b≠ς gg:=λb hb e=>hb (XM e);refine⟨λi=>if i<L then B i else wo.heap.size,λi hi=>?_,λi k hk hi=>?_⟩
 ·
  by_cases e:i<L
  ·
   obtain⟨e1,e2,e3,c,hc,hs⟩:=h1 i e;have:=hlt i e;simp only [if_pos e]
   exact⟨e1,e2,by omega,c,B9 (AC hc hbx) hgr (hne _ e3),hs⟩
  ·
   simp only [if_neg e]
   exact⟨trivial,hlo,by omega,cur,B9 hn1 hgr (hne _ (by omega)),hn2⟩
 ·
  simp only
  by_cases e:i<L
  · rw [if_pos e,if_pos (by omega)];exact h2 i k hk e
  · rw [if_neg e,if_pos (by omega)];exact hlt k (by omega)
def Apt(lo:Nat)(w:ο)(a:Option Addr)(A:List Rw):Prop:=A.length=0∨∃ (gg:Nat) (cur:Array XU) (B C:Nat->Nat),a=ς ⟨gg,0,ν⟩/\lo<=gg/\w.heap[gg]?=ς (γ cur 60 (0,0))/\(∀ i,i<A.length->cur[i]?=ς (σ (ς ⟨B i,0,ν⟩) (A.getD i r0).1 (C i)))/\(∀ i,i<A.length->WR w lo w.heap.size 94 3 (ς ⟨B i,0,ν⟩) (A.getD i r0).1)/\(∀ i,i<A.length->B i≠gg)/\∀ i k,k<i->i<A.length->B k<B i
theorem RowsAt.apt{G lo lo' gg cap n7:Nat}{D:Nat->Prop}{w:ο}{A:List Rw}{f:Nat->List XU}(h:RowsAt w lo gg n7 A.length f)(hRO:RO G D w (σ (ς ⟨gg,0,ν⟩) A.length cap) A.length (λi=>A.getD i r0) f)(hA:∀ x∈A,x.1=n7)(h1:lo'<=lo)(h2:lo'<=G):Apt lo' w (ς ⟨gg,0,ν⟩) A:=by
 by_cases e0:A.length=0
 · exact Xc e0
 obtain⟨B,hB,hI⟩:=h;have hrow:∃ cur,w.heap[gg]?=ς (γ cur 60 (0,0)):=by
  obtain⟨_,hh⟩:=hRO.own;rcases hh with hh | ⟨g',cap',cur,e1,e2,e3,e4,e5,e6,e7⟩
  · exact absurd hh.2 e0
  ·
   obtain⟨rfl,-⟩:gg=g'/\True:=by
    simp only [Value.slice.injEq,Option.some.injEq,Addr.mk.injEq] at e1
    exact⟨e1.1.1,trivial⟩
   exact⟨cur,e3⟩
 obtain⟨cur,hrow⟩:=hrow;have hgl:=hRO.own.lt gg rfl;refine Xi ⟨gg,cur,B,λ_=>n7,rfl,by omega,hrow,λi hi=>?_,λi hi=>?_,λi hi=>(hB i hi).2.2.1,hI⟩
 · have hc:=GO.cell hRO (i:=i) (j:=0) hi (by omega);rw [(hB i hi).1,Nat.mul_one,Xm,ε _ _ _ _ _ _ hrow] at hc;rw [hc,hA _ (CV (y:=r0) hi)];rfl
 · obtain⟨-,e2,-,c,hc,hs⟩:=hB i hi;exact Xi ⟨B i,c,rfl,by omega,(XS.1 hc).1,hc,by rw [hA _ (CV (y:=r0) hi)];omega⟩
def WV(w:ο)(A:List Rw)(cd:Int)(e:Ending)(w':ο):Prop:=∃ a' c',e=ρ (θ #[σ a' A.length c',ι κ cd])/\OD (λb=>w.heap.size<=b) w' a' A/\Apt w.heap.size w' a' A/\υ w.heap.size w w'
theorem WR.wide{w w':ο}{lo lo' hi hi':Nat}{t:TypeId}{z:Nat}{a:Option Addr}{n:Nat}(h:WR w lo hi t z a n)(hb:υ w.heap.size w w')(h1:lo'<=lo)(h2:hi<=hi'):WR w' lo' hi' t z a n:=by
 rcases h with h | ⟨g,cur,e1,e2,e3,e4,e5⟩
 · exact Xc h
 · exact Xi ⟨g,cur,e1,by omega,by omega,AC e4 hb,e5⟩
theorem Apt.later{lo lo':Nat}{w w':ο}{a:Option Addr}{A:List Rw}(h:Apt lo w a A)(hb:υ w.heap.size w w')(h1:lo'<=lo):Apt lo' w' a A:=by
 rcases h with h | ⟨gg,cur,B,C,e1,e2,e3,e4,e5,e6,e7⟩
 · exact Xc h
 · exact Xi ⟨gg,cur,B,C,e1,by omega,AC e3 hb,e4,λi hi=>(e5 i hi).wide hb h1 hb.size,e6,e7⟩
set_option maxHeartbeats 16000000
def GG(C:Nat->Clm)(n:Nat)(R:Nat->Nat->Itm)(W:Nat->Itm)(n6:Nat)(m7:Nat->Nat)(O:Nat->Nat->Itm)(n7 r:Nat):List Rw×Int:=
 if JV C n R W n6 m7 O n7 r=true then ([],6) else (JU C n R W n6 m7 O n7 r,0)
theorem LW{F:List Rw}{k:Nat}(h:k<F.length):F.take (k+1)=F.take k ++ [F.getD k r0]:=by
 rw [List.take_add_one];simp [h]
theorem Ps(ac:Option Addr)(n cc:Nat)(C:Nat->Clm)(mb:Nat)(ar:Option Addr)(dr cr:Nat)(dm:Nat->Nat)(dR:Nat->Nat->Itm)(k0:Int)(tb:ByteArray)(a2:Option Addr)(n2 c2:Nat)(a3:Option Addr)(n3 c3:Nat)(col:ByteArray)(a5:Option Addr)(n5 c5:Nat)(a6:Option Addr)(n6 c6:Nat)(a7:Option Addr)(n7 c7:Nat)(W:Nat->Itm)(m7:Nat->Nat)(O:Nat->Nat->Itm)(w:ο)(hP:PlAt w mb n C)(hdp:∀ k,k<n->Ah C (C k).s k=false)(hR:OL w ar dr dm dR)(hW:IL w a6 n6 W)(hOu:OL w a7 n7 m7 O)(hok:AR W n6=true)(hcw:EO C n W n6=0)(hex:∀ i,i<n7->Ag (O i) (m7 i)=true/\(ck C n (O i) (m7 i)).2=0)(hN:Nice n dr dm dR)(hg:∀ k,k<dr->Er n C (dR k))(h7:n7<=1048576) :
 XR μ 57 #[χ #[σ ac n cc,.map (ς mb)],σ ar dr cr,χ #[ι κ k0,τ tb,σ a2 n2 c2,σ a3 n3 c3,τ col,σ a5 n5 c5,σ a6 n6 c6,σ a7 n7 c7]] w (WV w (GG C n dR W n6 m7 O n7 dr).1 (GG C n dR W n6 m7 O n7 dr).2):=by
 have hbU:υ w.heap.size w (((w.alloc (γ #[σ ac n cc,.map (ς mb)] 117)).alloc (γ #[ι κ k0,τ tb,σ a2 n2 c2,σ a3 n3 c3,τ col,σ a5 n5 c5,σ a6 n6 c6,σ a7 n7 c7] 64)).alloc (γ #[] 60)):=A7 _ _ _ _;have hsU:(((w.alloc (γ #[σ ac n cc,.map (ς mb)] 117)).alloc (γ #[ι κ k0,τ tb,σ a2 n2 c2,σ a3 n3 c3,τ col,σ a5 n5 c5,σ a6 n6 c6,σ a7 n7 c7] 64)).alloc (γ #[] 60)).heap.size=w.heap.size+3:=by rw [ω,ω,ω]
 have hq0:(((w.alloc (γ #[σ ac n cc,.map (ς mb)] 117)).alloc (γ #[ι κ k0,τ tb,σ a2 n2 c2,σ a3 n3 c3,τ col,σ a5 n5 c5,σ a6 n6 c6,σ a7 n7 c7] 64)).alloc (γ #[] 60)).heap[w.heap.size]?=ς (γ #[σ ac n cc,.map (ς mb)] 117 (0,0)):=AC (AC (η w _) (AE _ _)) (AE _ _);have hq1:(((w.alloc (γ #[σ ac n cc,.map (ς mb)] 117)).alloc (γ #[ι κ k0,τ tb,σ a2 n2 c2,σ a3 n3 c3,τ col,σ a5 n5 c5,σ a6 n6 c6,σ a7 n7 c7] 64)).alloc (γ #[] 60)).heap[w.heap.size+1]?=ς (γ #[ι κ k0,τ tb,σ a2 n2 c2,σ a3 n3 c3,τ col,σ a5 n5 c5,σ a6 n6 c6,σ a7 n7 c7] 64 (0,0)):=by
  have q:=η (w.alloc (γ #[σ ac n cc,.map (ς mb)] 117)) (γ #[ι κ k0,τ tb,σ a2 n2 c2,σ a3 n3 c3,τ col,σ a5 n5 c5,σ a6 n6 c6,σ a7 n7 c7] 64);rw [ω] at q;exact AC q (AE _ _)
 have hOE:(((w.alloc (γ #[σ ac n cc,.map (ς mb)] 117)).alloc (γ #[ι κ k0,τ tb,σ a2 n2 c2,σ a3 n3 c3,τ col,σ a5 n5 c5,σ a6 n6 c6,σ a7 n7 c7] 64)).alloc (γ #[] 60)).ownsRow (w.heap.size+1+1) 60 1 (σ (ς ⟨w.heap.size+1+1,0,ν⟩) 0 0) 0 []:=by
  have q:=Xb (base:=w.heap.size+1+1) (e:=60) (size:=1) ((w.alloc (γ #[σ ac n cc,.map (ς mb)] 117)).alloc (γ #[ι κ k0,τ tb,σ a2 n2 c2,σ a3 n3 c3,τ col,σ a5 n5 c5,σ a6 n6 c6,σ a7 n7 c7] 64)) #[] 0 (by rw [ω,ω];exact XK _) (by unfold maxLen;omega) rfl;rw [ω,ω] at q;exact q
 obtain⟨c0,c1⟩:(((w.alloc (γ #[σ ac n cc,.map (ς mb)] 117)).alloc (γ #[ι κ k0,τ tb,σ a2 n2 c2,σ a3 n3 c3,τ col,σ a5 n5 c5,σ a6 n6 c6,σ a7 n7 c7] 64)).alloc (γ #[] 60)).cell? ⟨w.heap.size,0,ν⟩=ς (σ ac n cc)/\(((w.alloc (γ #[σ ac n cc,.map (ς mb)] 117)).alloc (γ #[ι κ k0,τ tb,σ a2 n2 c2,σ a3 n3 c3,τ col,σ a5 n5 c5,σ a6 n6 c6,σ a7 n7 c7] 64)).alloc (γ #[] 60)).cell? ⟨w.heap.size,1,ν⟩=ς (.map (ς mb)):=⟨ε _ _ 0 _ _ _ hq0,ε _ _ 1 _ _ _ hq0⟩;obtain⟨-,-,-,-,-,-,d6_,-⟩:=Ak hq1;have HF:=NM ac n cc C mb ar dr cr dm dR a6 n6 c6 W w _ hbU (hP.later hbU) hdp hR (hW.later hbU) hok hcw hN hg;have hr1:=hN.r1;have hn1:=hN.n1;obtain⟨F,hF⟩:∃ F,Hu C n dm dR W n6 dr=F:=⟨_,rfl⟩;have hFl:F.length<=dr:=by rw [←hF];exact Hf
 have HM:Hid (∀ x∈F,x.1=n/\Er n C x.2):=by
  show ∀ x∈F,_
  rw [←hF];exact KR (P:=λx=>x.1=n/\Er n C x.2) (λj hj=>⟨hN.len j hj,hg j hj⟩)
 have HCH:Hid (GG C n dR W n6 m7 O n7 dr=if F.any (λx=>B7 C n x.2 m7 O n7)=true then ([],6) else (F.map (λx=>Iu C n x.2 m7 O n7),0)):=by
  show _=_
  obtain⟨e1,e2⟩:=QP (C:=C) (n:=n) (m:=dm) (R:=dR) (W:=W) (n6:=n6) (m7:=m7) (O:=O) (n7:=n7) dr;unfold GG;rw [e1,e2,hF]
 rw [hF] at HF;have HPL:Hid (PlAt w mb n C/\(∀ k,k<n->Ah C (C k).s k=false)):=⟨hP,hdp⟩;have HEX:Hid (∀ i,i<n7->Ag (O i) (m7 i)=true/\(ck C n (O i) (m7 i)).2=0):=hex;clear hF hP hdp hR hW hok hcw hex hN hg;obtain⟨jr,hir,hzr0,hzr1,hzr2⟩:=info_parts Tryz.infoRow;have HIr:Hid (Tryz.prog.info? 60=ς jr):=hir;clear hir;go_enter Tryz.func57,Tryz.ntmps57
 go_wp2_with (go_at_call 118;refine HF.mono ?_;rintro e w1 ⟨a1,c1',rfl,hOD,hb1⟩)
 have hOD1:=hOD.cut;have y0:=AC hq0 hb1;have y1:=AC hq1 hb1;have hOE1:=AH hOE hb1;have hbw1:=AA hbU hb1;have hs1:w.heap.size+3<=w1.heap.size:=by have:=hb1.size;omega
 rw [hsU] at hOD1;clear hOD hq0 hq1 hOE c0 c1 d6_ hbU HF;go_loopw [8,10,11,12,13,21] (λv _ _ _ _ i wr=>∃ (k:Nat) (A:List Rw) (gg cap:Nat) (f:Nat->List XU),k<=F.length/\i=ι κ k/\v=σ (ς ⟨gg,0,ν⟩) A.length cap/\(F.take k).map (λx=>Iu C n x.2 m7 O n7)=A/\(F.take k).any (λx=>B7 C n x.2 m7 O n7)=false/\RO (w.heap.size+1+1) (λb=>w1.heap.size<=b) wr (σ (ς ⟨gg,0,ν⟩) A.length cap) A.length (λi=>A.getD i r0) f/\RowsAt wr w1.heap.size gg n7 A.length f/\(gg=w.heap.size+1+1∨w1.heap.size<=gg)/\wr.heap[w.heap.size]?=ς (γ #[σ ac n cc,.map (ς mb)] 117 (0,0))/\wr.heap[w.heap.size+1]?=ς (γ #[ι κ k0,τ tb,σ a2 n2 c2,σ a3 n3 c3,τ col,σ a5 n5 c5,σ a6 n6 c6,σ a7 n7 c7] 64 (0,0))/\OD (λb=>(b<w.heap.size∨w.heap.size+3<=b)/\b<w1.heap.size) wr a1 F/\υ w.heap.size w wr/\w1.heap.size<=wr.heap.size) (λ_ _ _ _ _ i _=>F.length - (XX i).toNat)
 case atStart=>exact⟨0,[],w.heap.size+1+1,0,λ_=>[],XZ _,rfl,rfl,by simp,by simp,GO.nil hOE1,RowsAt.nil _ _ _ _ _,Xc rfl,y0,y1,hOD1,hbw1,XK _⟩
 case round=>
  obtain⟨k,A,gg,cap,f,hk,rfl,rfl,hse,hsg,hRO,hRA,hgb,q0,q1,hODr,hbw,hsr⟩:=hrel;have HSS:Hid ((F.take k).map (λx=>Iu C n x.2 m7 O n7)=A/\(F.take k).any (λx=>B7 C n x.2 m7 O n7)=false):=⟨hse,hsg⟩;have hAl:A.length<=1000000:=by rw [←hse];simp;omega
  clear hse hsg y0 y1 hOD1 hOE1 hbw1;have hgl:=hRO.own.lt gg rfl;by_cases hlt:k<F.length
  rotate_left
  ·
   obtain rfl:k=F.length:=by omega
   have HA:Hid (GG C n dR W n6 m7 O n7 dr=(A,0)):=by
    show _=_
    have h1:=HSS.out.1;have h2:=HSS.out.2;rw [List.take_length] at h1 h2;rw [HCH.out,h1,h2,if_neg (by simp)]
   obtain⟨a',c',e',hOD2⟩:=RO.od (D':=λb=>w.heap.size<=b) hRO (λb h=>by omega) (λb h=>by omega);obtain⟨rfl,rfl⟩:ς ⟨gg,0,ν⟩=a'/\cap=c':=by simpa using e'
   have hAp:=hRA.apt (lo':=w.heap.size) hRO (λx hx=>by
    rw [←HSS.out.1] at hx;obtain⟨y,-,rfl⟩:=List.mem_map.1 hx;rfl) (by omega) (by omega)
   go_wp2;refine XL (Xg rfl _ _ _) rfl ?_;rw [HA.out];exact⟨_,_,rfl,hOD2,hAp,hbw⟩
  have HNX:Hid ((F.take (k+1)).map (λx=>Iu C n x.2 m7 O n7)=A ++ [Iu C n (F.getD k r0).2 m7 O n7]/\(F.take (k+1)).any (λx=>B7 C n x.2 m7 O n7)=B7 C n (F.getD k r0).2 m7 O n7):=by
   rw [Hid,LW hlt,List.map_append,List.any_append,HSS.out.1,HSS.out.2];exact⟨rfl,by simp⟩
  have HBG:Hid (B7 C n (F.getD k r0).2 m7 O n7=true->GG C n dR W n6 m7 O n7 dr=([],6)):=λhb=>by
   rw [HCH.out,if_pos (List.any_eq_true.2 ⟨_,CV (y:=r0) hlt,hb⟩)]
  obtain⟨hm,hgR⟩:=HM.out _ (CV (y:=r0) hlt);obtain⟨bR,offR,ai,ci,rfl,-,d1,hl⟩:=hODr k hlt;obtain⟨ai',ci',e',hI,-⟩:=hl.now;simp only [List.cons.injEq,and_true,Value.slice.injEq,true_and] at e'
  obtain⟨rfl,rfl⟩:=e';obtain⟨mX,X,hX⟩:∃ m X,F.getD k r0=(m,X):=⟨_,_,rfl⟩;rw [hX] at hm hgR d1 hI HNX HBG;simp only at hm hgR d1 hI HNX HBG
  subst hm;clear hX hl;have hkr:(k:Int)<F.length:=by omega
  have HGR:Hid (Er mX C X):=hgR;have HVL:Hid (∀ i,i<n7->∀ aO cO W',IL W' aO (m7 i) (O i)->υ wr.heap.size wr W'->XR μ 119 #[χ #[σ ac mX cc,.map (ς mb)],σ aO (m7 i) cO,σ ai mX ci] W' (λe w'=>e=ρ (χ #[ι κ (Cn C mX X (O i) (m7 i)).o,ι κ (Cn C mX X (O i) (m7 i)).m,τ (Cn C mX X (O i) (m7 i)).s])/\υ W'.heap.size W' w')):=λi hi aO cO W' hIO hW'=>by
   obtain⟨ho,hc⟩:=HEX.out i hi;obtain⟨x1,x2,x3⟩:=CK ho;exact KK ac mX cc C mb ai ci X aO (m7 i) cO (O i) W' (HPL.out.1.later (AA hbw hW')) HPL.out.2 (hI.later hW') hIO x1 x3 hc HGR.out
  have HVX:Hid (∀ i,i<n7->(Cn C mX X (O i) (m7 i)).s.size<=1048576):=λi hi=>by
   obtain⟨ho,-⟩:=HEX.out i hi;obtain⟨x1,x2,x3⟩:=CK ho;exact Fi (λj hj=>(HGR.out j hj).1) x3 x1 x2
  have hOuR:=hOu.later hbw;clear hgR;obtain⟨wo,hwo⟩:∃ v,v=wr:=⟨_,rfl⟩;subst hwo;have hmk:=C1 (t:=60) Tryz.underlying60 Tryz.infoVal n7 h7 (by omega) wo;have qo:=(Ak q1).2.2.2.2.2.2.2;have qx:=(Ak (AC q1 (AE wo (γ (madeCells (χ #[ι κ 0,ι κ 0,τ XN]).cells (n7 * 3)) 94)))).2.2.2.2.2.2.2;have hPV0:PV (wo.alloc (γ (madeCells (χ #[ι κ 0,ι κ 0,τ XN]).cells (n7 * 3)) 94)) wo.heap.size n7 0 (λi=>Cn C mX X (O i) (m7 i)):=⟨_,η _ _,Bv _ _,λj hj=>by omega⟩;have hbm:=AE wo (γ (madeCells (χ #[ι κ 0,ι κ 0,τ XN]).cells (n7 * 3)) 94);generalize wo.alloc (γ (madeCells (χ #[ι κ 0,ι κ 0,τ XN]).cells (n7 * 3)) 94)=wm at hmk qx hPV0 hbm;go_wp2;clear hmk;go_loopw [12,13,32] (λ_ _ i wr=>∃ (q:Nat),q<=n7/\i=ι κ q/\PV wr wo.heap.size n7 q (λi=>Cn C mX X (O i) (m7 i))/\υ wo.heap.size wo wr) (λ_ _ i _=>n7 - (XX i).toNat)
  case atStart=>exact⟨0,XZ _,rfl,hPV0,hbm⟩
  case round=>
   obtain⟨q,hq,rfl,hPV,hbr⟩:=hrel;clear hPV0 hbm qx qo;have p0:=AC q0 hbr;obtain⟨s0,s1⟩:wr.cell? ⟨w.heap.size,0,ν⟩=ς (σ ac mX cc)/\wr.cell? ⟨w.heap.size,1,ν⟩=ς (.map (ς mb)):=⟨ε _ _ 0 _ _ _ p0,ε _ _ 1 _ _ _ p0⟩;by_cases hql:q<n7
   ·
    obtain⟨bO,offO,aO,cO,rfl,dO,hIO,-⟩:=hOuR.later hbr q hql;try simp only at dO hIO
    have hqn:(q:Int)<n7:=by omega
    have HV:=HVL.out q hql aO cO wr hIO hbr;obtain⟨xo_,xm,xs,hx⟩:∃ xo xm xs,Cn C mX X (O q) (m7 q)=⟨xo,xm,xs⟩:=⟨_,_,_,rfl⟩;have HX:Hid ((λi=>Cn C mX X (O i) (m7 i)) q=⟨xo_,xm,xs⟩):=hx;rw [hx] at HV;simp only at HV
    clear hx;go_wp2_with (go_at_call 119;refine HV.mono ?_;rintro e w6 ⟨rfl,hb6⟩;have hPV6:=hPV.later hb6;obtain⟨v0,v1,v2,g0,g1,g2,f0,f1,f2⟩:=hPV6.cell hql)
    have hPV7:=PV.set (x:=⟨xo_,xm,xs⟩) hPV6 hql HX.out;simp only at hPV7
    have hb7:υ wo.heap.size wo (((w6.setCell ⟨wo.heap.size,q * 3,ν⟩ (ι κ xo_)).setCell ⟨wo.heap.size,q * 3+1,ν⟩ (ι κ xm)).setCell ⟨wo.heap.size,q * 3+2,ν⟩ (τ xs)):=((((AA hbr hb6).setCell (XK _) _).setCell (XK _) _).setCell (XK _) _);clear g0 g1 g2 f0 f1 f2;generalize (((w6.setCell ⟨wo.heap.size,q * 3,ν⟩ (ι κ xo_)).setCell ⟨wo.heap.size,q * 3+1,ν⟩ (ι κ xm)).setCell ⟨wo.heap.size,q * 3+2,ν⟩ (τ xs))=w7 at hPV7 hb7 ⊢;go_roundw
    case rel=>exact⟨q+1,by omega,by go_num,hPV7,hb7⟩
    case measure=>simp [XX];omega
   ·
    obtain rfl:q=n7:=by omega
    have hIL:=hPV.il HVX.out;have HLG:=NJ _ q q _ wr hIL h7;have HBG2:Hid (B7 C mX X m7 O q=decide (200<Do (λi=>Cn C mX X (O i) (m7 i)) q)):=KH;obtain⟨y,hy⟩:∃ y,Do (λi=>Cn C mX X (O i) (m7 i)) q=y:=⟨_,rfl⟩;rw [hy] at HLG HBG2;clear hy;by_cases hb200:200<y
    ·
     have hb2:(200:Int)<y:=by omega
     have HA:Hid (GG C mX dR W n6 m7 O q dr=([],6)):=HBG.out (by rw [HBG2.out];simpa using hb200);go_wp2_with (go_at_call 120;refine HLG.mono ?_;rintro e w7 ⟨rfl,hb7⟩)
     refine XL (Xg rfl _ _ _) rfl ?_;rw [HA.out];exact⟨_,_,rfl,λk hk=>absurd hk (Xj k),Xc rfl,AA hbw (AA hbr (AA hb7 (AE _ _)))⟩
    ·
     have hb2:¬(200:Int)<y:=by omega
     have hROr:=hRO.later hbr;have hssr:=hbr.size;go_wp2_with (first | (at_builtin;have _h:=hROr7;refine XY _ rfl _ _ _ rfl (w.heap.size+1+1) 60 jr (σ ν 0 0) 1 24 Tryz.underlying36 HIr.out hzr0 hzr1 hzr2 rfl (by omega) (σ (ς ⟨gg,0,ν⟩) A.length cap) A.length (CH f A.length) rfl (hROr7.later (AE _ _)).own ⟨w7.heap.size,0,ν⟩ 1 1 [σ (ς ⟨wo.heap.size,0,ν⟩) q q] rfl rfl (XP (η w7 _)) (Bu _ rfl) (by omega) (by unfold maxLen;omega) (by omega) (by simp;omega) _ rfl ?_;intro g8 cap8 w8 hO8 hgr8 hat8 hlt8) | (go_at_call 120;refine HLG.mono ?_;rintro e w7 ⟨rfl,hb7⟩;have hROr7:=hROr.later hb7;have hss7:=hb7.size))
     have hLt:Liv (λb=>w1.heap.size<=b/\ς b≠(σ (ς ⟨gg,0,ν⟩) A.length cap).ownBlock) w7 (ER [σ (ς ⟨wo.heap.size,0,ν⟩) q q] (Iu C mX X m7 O q)):=((hIL.later hb7).liv (λb off e=>by
      obtain⟨rfl,-⟩:wo.heap.size=b/\0=off:=by simpa using e
      refine⟨by omega,?_⟩;show ς wo.heap.size≠ς gg
      intro e2;have e3:wo.heap.size=gg:=XM e2;omega)).imp (λ_ h=>⟨_,_,rfl,h,by show q<=_;omega⟩)
     have hP8:=GO.snoc (x:=Iu C mX X m7 O q) (hROr7.later (AE _ _)) (c:=[σ (ς ⟨wo.heap.size,0,ν⟩) q q]) rfl (hLt.later (AE _ _)) hO8 hgr8 hat8;have eA:(A ++ [Iu C mX X m7 O q]).length=A.length+1:=by simp
     have hne:∀ b,b≠gg->ς b≠(σ (ς ⟨gg,0,ν⟩) A.length cap).ownBlock:=λb hb=>by
      show ς b≠ς gg
      intro e2;exact hb (XM e2)
     have hbx:=AA hbr (AA hb7 (AE w7 (γ #[σ (ς ⟨wo.heap.size,0,ν⟩) q q] 60)));have hRA8:=RowsAt.snoc hRA hsr hgl.2 hbx (by
      obtain⟨cur,t1,t2,-⟩:=(hPV.later (AA hb7 (AE w7 (γ #[σ (ς ⟨wo.heap.size,0,ν⟩) q q] 60))));exact⟨cur,t1,t2⟩) hgr8 hat8
     go_roundw
     case rel=>exact⟨k+1,A ++ [Iu C mX X m7 O q],g8,cap8,_,by omega,by go_num,by rw [eA],HNX.out.1,by rw [HNX.out.2,HBG2.out];simpa using hb200,hP8,by rw [eA];exact hRA8,by
      rcases hat8 with e2 | e2
      · have e3:gg=g8:=XM e2;omega
      · rw [ω] at e2;omega,B9 (AC q0 hbx) hgr8 (hne _ (by omega)),B9 (AC q1 hbx) hgr8 (hne _ (by omega)),(hODr.later hbx).grown hgr8 (λb hb=>hne _ (by omega)),Ik (AA hbw hbx) hgr8 (λx hx=>hne _ (by omega)),Xe hsr (Xe hbx.size hgr8.size)⟩
     case measure=>simp [XX];omega
