import Derived.Test.YtoeencbghldmdaaGreatDoorVi
import Derived.Test.YtoeencbghldmdaaGreatDoorXc
import Derived.Test.YtoeencbghldmdaaGreatDoorShelk
open Array renaming getElem?_eq_some_iff → VL
open Bool renaming and_eq_true → VO
open ByteArray renaming empty → VG
open Go renaming Calls → VK, Value → VN, World → ο, bodyPost_ret → VE, cell_of_row → ε, heap_alloc_new → η, results_cell_row → VW, wpList_append_lies → VR, frozen_of_row → ζ, heap_setCell_same → π, results_tmp2 → VZ, wpAnyH_done → VP, wp_region_held_drew → VH
open Go.Ending renaming returned → ρ
open Go.IntKind renaming i64 → κ
open Go.Obj renaming cells → γ
open Go.Proofs.Tryz renaming prog → μ
open Go.RowKit renaming Below → υ, intOf → VQ
open Go.RowKit.Below renaming refl → VT
open Go.Value renaming agg → χ, int → ι, slice → σ, string → τ, tuple → θ, bool → β, pointer → ψ
open Go.World renaming news_of_block → VI, ownsRow_made → VU, size_alloc → ω
open List renaming length_append → VJ, nil_append → Vd
open Nat renaming le_refl → VD, zero_add → VM, zero_le → VS, add_zero → Vf, le_trans → VX, not_lt_zero → Vc
open Option renaming none → ν, some → ς
open Option.some renaming inj → VF
open Or renaming inl → VV, inr → Vb
namespace Go.Proofs.YtoeencbghldmdaaGreatDoor
open Go.RowKit Go.Maps Go.WideMaps
set_option maxRecDepth 20000
set_option maxHeartbeats 16000000
def Bc(n:Nat)(C:Nat->Clm)(F:Nat->Itm):Prop:=∀ j,j<n->(F j).s.size<=200/\Bu (F j)/\(F j).o=(C j).t
theorem Gj(ac:Option Addr)(n cc:Nat)(C:Nat->Clm)(mb:Nat)(ar:Option Addr)(cr:Nat)(R:Nat->Itm)(a:Option Addr)(m c:Nat)(I:Nat->Itm)(w:ο)(hP:PlAt w mb n C)(hdp:∀ k,k<n->AR C (C k).s k=false)(hR:IL w ar n R)(hI:IL w a m I)(hm:m<=100)(hx:ex I m=ς 1)(hk0:(ck C n I m).2=0)(hg:Bc n C R) :
 VK μ 81 #[χ #[σ ac n cc,.map (ς mb)],σ a m c,σ ar n cr] w λe w'=>e=ρ (χ #[ι κ (Bv C n R I m).o,ι κ (Bv C n R I m).m,τ (Bv C n R I m).s])/\υ w.heap.size w w':=by
 have hbU:υ w.heap.size w (((w.alloc (γ #[σ ac n cc,.map (ς mb)] 77)).alloc (γ #[σ ar n cr] 30)).alloc (γ #[ι κ 0,ι κ 0,τ ⟨#[]⟩] 60)):=Ay _ _ _ _;have hq0:(((w.alloc (γ #[σ ac n cc,.map (ς mb)] 77)).alloc (γ #[σ ar n cr] 30)).alloc (γ #[ι κ 0,ι κ 0,τ ⟨#[]⟩] 60)).heap[w.heap.size]?=ς (γ #[σ ac n cc,.map (ς mb)] 77 (0,0)):=AC (AC (η w _) (AD _ _)) (AD _ _);have hq1:(((w.alloc (γ #[σ ac n cc,.map (ς mb)] 77)).alloc (γ #[σ ar n cr] 30)).alloc (γ #[ι κ 0,ι κ 0,τ ⟨#[]⟩] 60)).heap[w.heap.size+1]?=ς (γ #[σ ar n cr] 30 (0,0)):=by
  have q:=η (w.alloc (γ #[σ ac n cc,.map (ς mb)] 77)) (γ #[σ ar n cr] 30);rw [ω] at q;exact AC q (AD _ _)
 have hq2:(((w.alloc (γ #[σ ac n cc,.map (ς mb)] 77)).alloc (γ #[σ ar n cr] 30)).alloc (γ #[ι κ 0,ι κ 0,τ ⟨#[]⟩] 60)).heap[w.heap.size+1+1]?=ς (γ #[ι κ 0,ι κ 0,τ ⟨#[]⟩] 60 (0,0)):=by
  have q:=η ((w.alloc (γ #[σ ac n cc,.map (ς mb)] 77)).alloc (γ #[σ ar n cr] 30)) (γ #[ι κ 0,ι κ 0,τ ⟨#[]⟩] 60);rw [ω,ω] at q;exact q
 have HW:=Rb n C mb ar cr R (w.heap.size+1) w.heap.size a m c I _ (hP.later hbU) hdp (hR.later hbU) (ε _ _ 0 _ _ _ hq1) (ε _ _ 1 _ _ _ hq0) (hI.later hbU) hm hx hk0 (λj hj=>(hg j hj).1) (λj hj=>(hg j hj).2);obtain⟨x,hxx⟩:∃ x,Bv C n R I m=x:=⟨_,rfl⟩;rw [hxx] at HW ⊢;obtain⟨xo,xm,xs⟩:=x;simp only at HW ⊢
 clear hxx hx hk0 hdp hg;go_enter Tryz.func81,Tryz.ntmps81
 go_wp2_with (go_at_call 118;refine HW.mono ?_;rintro e w1 ⟨rfl,hb1⟩;have r2:=AC (AC hq2 hb1) (AD w1 (γ #[ι κ xo,ι κ xm,τ xs] 60));obtain⟨m0,m1,m2,f0,f1,f2⟩:=AL r2)
 refine VE (v:=χ #[ι κ xo,ι κ xm,τ xs]) (VW Tryz.results81 _ _ (w.heap.size+1+1) 60 _ (0,0) _ rfl (DM r2 _ _ _) Tryz.underlying60 rfl (by kernel_rfl)) rfl ⟨rfl,BM (AA hbU (AA hb1 (AD _ _))) (by omega) _ _ _⟩
def C4(C:Nat->Clm)(n:Nat)(m:Nat->Nat)(R:Nat->Nat->Itm)(W:Nat->Itm)(n6:Nat):Nat->List Rw
 | 0=>[]
 | k+1=>C4 C n m R W n6 k ++ Eb (Bp C n (R k) W n6) (m k,R k)
theorem DH{C:Nat->Clm}{n:Nat}{m:Nat->Nat}{R:Nat->Nat->Itm}{W:Nat->Itm}{n6:Nat}:∀ {k:Nat},(C4 C n m R W n6 k).length<=k
 | 0=>by simp [C4]
 | k+1=>by
  have ih:=DH (C:=C) (n:=n) (m:=m) (R:=R) (W:=W) (n6:=n6) (k:=k);simp only [C4,VJ,DE]
  split <;> omega
theorem Ci{C:Nat->Clm}{n:Nat}{m:Nat->Nat}{R:Nat->Nat->Itm}{W:Nat->Itm}{n6:Nat}{P:Rw->Prop}:∀ {k:Nat},(∀ j,j<k->P (m j,R j))->∀ x∈C4 C n m R W n6 k,P x
 | 0,_,x,hx=>by cases hx
 | k+1,h,x,hx=>by
  simp only [C4,List.mem_append] at hx
  rcases hx with hx | hx
  · exact Ci (λj hj=>h j (by omega)) x hx
  · rw [Fa hx];exact h k (by omega)
theorem Er(ac:Option Addr)(n cc:Nat)(C:Nat->Clm)(mb:Nat)(ar:Option Addr)(dr cr:Nat)(dm:Nat->Nat)(dR:Nat->Nat->Itm)(a6:Option Addr)(n6 c6:Nat)(W:Nat->Itm)(w0 w:ο)(hb0:υ w0.heap.size w0 w)(hP:PlAt w mb n C)(hdp:∀ k,k<n->AR C (C k).s k=false)(hR:OL w0 ar dr dm dR)(hW:IL w a6 n6 W)(hok:AI W n6=true)(hcw:CM C n W n6=0)(hN:Nice n dr dm dR)(hg:∀ k,k<dr->Bc n C (dR k)) :
 VK μ 80 #[χ #[σ ac n cc,.map (ς mb)],σ ar dr cr,σ a6 n6 c6] w λe w'=>∃ a' c',e=ρ (σ a' (C4 C n dm dR W n6 dr).length c')/\OD (λb=>b<w0.heap.size∨w.heap.size<=b) w' a' (C4 C n dm dR W n6 dr)/\υ w.heap.size w w':=by
 have HDP:Hid (∀ k,k<n->AR C (C k).s k=false):=hdp;have HN:Hid (Nice n dr dm dR):=hN;have HG:Hid (∀ k,k<dr->Bc n C (dR k)):=hg;have HOK:Hid (AI W n6=true/\CM C n W n6=0):=⟨hok,hcw⟩;have hs00:=hb0.size;have hn1:=hN.n1;have hr1:=hN.r1;clear hdp hN hg hok hcw;obtain⟨jr,hir,hzr0,hzr1,hzr2⟩:=info_parts Tryz.infoRow;have HIr:Hid (Tryz.prog.info? 30=ς jr):=hir;clear hir;have hb1:=AD w (γ #[σ ac n cc,.map (ς mb)] 77);have hq0:=η w (γ #[σ ac n cc,.map (ς mb)] 77);have hs1:(w.alloc (γ #[σ ac n cc,.map (ς mb)] 77)).heap.size=w.heap.size+1:=ω _ _;have hO0:((w.alloc (γ #[σ ac n cc,.map (ς mb)] 77)).alloc (γ #[] 30)).ownsRow (w.heap.size+1) 30 1 (σ (ς ⟨w.heap.size+1,0,ν⟩) 0 0) 0 []:=by
  have q:=VU (base:=w.heap.size+1) (e:=30) (size:=1) (w.alloc (γ #[σ ac n cc,.map (ς mb)] 77)) #[] 0 (by rw [hs1];exact VD _) (by unfold maxLen;omega) rfl;rw [hs1] at q;exact q
 have hb2:=AD (w.alloc (γ #[σ ac n cc,.map (ς mb)] 77)) (γ #[] 30);go_enter Tryz.func80,Tryz.ntmps80
 go_wp2;go_loopw [7,9,13] (λv _ i wr=>∃ (k:Nat) (A:List Rw) (g cap:Nat) (f:Nat->List VN),k<=dr/\i=ι κ k/\v=σ (ς ⟨g,0,ν⟩) A.length cap/\C4 C n dm dR W n6 k=A/\RO (w.heap.size+1) (λb=>b<w0.heap.size) wr (σ (ς ⟨g,0,ν⟩) A.length cap) A.length (λi=>A.getD i r0) f/\υ (w.alloc (γ #[σ ac n cc,.map (ς mb)] 77)).heap.size (w.alloc (γ #[σ ac n cc,.map (ς mb)] 77)) wr) (λ_ _ i _=>dr - (VQ i).toNat)
 case atStart=>exact⟨0,[],w.heap.size+1,0,λ_=>[],by omega,rfl,rfl,rfl,GO.nil hO0,hb2⟩
 case round=>
  obtain⟨k,A,g,cap,f,hk,rfl,rfl,hft,hRO,hbr⟩:=hrel;have HFT:Hid (C4 C n dm dR W n6 k=A):=hft;have hAl:A.length<=k:=by rw [←hft];exact DH
  clear hft;have hbw:=AA hb1 hbr;have hsr:=hbr.size;have q0:=AC hq0 hbr;obtain⟨c0,c1⟩:wr.cell? ⟨w.heap.size,0,ν⟩=ς (σ ac n cc)/\wr.cell? ⟨w.heap.size,1,ν⟩=ς (.map (ς mb)):=⟨ε _ _ 0 _ _ _ q0,ε _ _ 1 _ _ _ q0⟩;have hgl:=hRO.own.lt g rfl;by_cases hlt:k<dr
  rotate_left
  ·
   obtain rfl:k=dr:=by omega
   obtain⟨a',c',e',hOD⟩:=RO.od (D':=λb=>b<w0.heap.size∨w.heap.size<=b) hRO (λb hx=>VV hx) (λb hx=>Vb (by omega));obtain⟨rfl,rfl⟩:ς ⟨g,0,ν⟩=a'/\cap=c':=by simpa using e'
   go_wp2;go_ret
   rw [HFT.out];exact⟨_,_,rfl,hOD,hbw⟩
  obtain⟨bR,offR,ai,ci,rfl,d1,hLE,hI⟩:=ER.of hR hlt;have hmk:=HN.out.len k hlt;have d2:=AB (AA hb0 hbw) d1;rw [hmk] at d2 hI;have HLE:Hid (∀ W',υ w0.heap.size w0 W'->Liv (λb=>b<w0.heap.size) W' (ER [σ ai n ci] (dm k,dR k))):=λW' hW'=>by
   have:=hLE.later hW';rwa [show σ ai (dm k) ci=σ ai n ci from by rw [hmk]] at this
  clear hmk d1 hLE;have hkr:(k:Int)<dr:=by omega
  have HST0:Hid (C4 C n dm dR W n6 (k+1)=A ++ Eb (Bp C n (dR k) W n6) (dm k,dR k)):=by show _=_;rw [C4,HFT.out]
  by_cases h6:n6=0
  ·
   subst h6;have HST:Hid (C4 C n dm dR W 0 (k+1)=A ++ Eb true (dm k,dR k)):=by
    show _=_
    rw [HST0.out];rfl
   go_wp2_with ((at_builtin;refine VR _ rfl _ _ _ rfl (w.heap.size+1) 30 jr (σ ν 0 0) 1 24 Tryz.underlying43 HIr.out hzr0 hzr1 hzr2 rfl (by omega) (σ (ς ⟨g,0,ν⟩) A.length cap) A.length (BU f A.length) rfl (hRO.later (AD _ _)).own ⟨wr.heap.size,0,ν⟩ 1 1 [σ ai n ci] rfl rfl (VI (η wr _)) (Bt _ rfl) (by omega) (by unfold maxLen;omega) (by omega) (by simp;omega) _ rfl ?_;intro g8 cap8 w8 hO8 hgr8 hat8 hlt8))
   have hL4:Liv (λb=>b<w0.heap.size/\ς b≠(σ (ς ⟨g,0,ν⟩) A.length cap).ownBlock) wr (ER [σ ai n ci] (dm k,dR k)):=(HLE.out _ (AA hb0 hbw)).wide (λb hx _=>⟨hx,by show ς b≠ς g;intro e2;have e3:b=g:=VF e2;omega⟩);have hP8:=GO.snoc (x:=(dm k,dR k)) (hRO.later (AD _ _)) (c:=[σ ai n ci]) rfl (hL4.later (AD _ _)) hO8 hgr8 hat8;have hb8:=gB (AA (hbr) (AD _ _)) (r:=g) hgr8 (by omega);have eA:(A ++ [(dm k,dR k)]).length=A.length+1:=by simp
   go_roundw
   case rel=>exact⟨k+1,A ++ [(dm k,dR k)],g8,cap8,_,by omega,by go_num,by rw [eA],by rw [HST.out];rfl,hP8,hb8⟩
   case measure=>simp [VQ];omega
  ·
   obtain⟨h1,h2,h3⟩:=CY HOK.out.1 h6;have n0:((n6:Int) == 0)=false:=by simp;omega
   have HVL:=Gj ac n cc C mb ai ci (dR k) a6 n6 c6 W wr (hP.later hbw) HDP.out (hI.later (AA hb0 hbw)) (hW.later hbw) h1 h3 (Ol HOK.out.2 h6) (HG.out k hlt);obtain⟨x,hx⟩:∃ x,Bv C n (dR k) W n6=x:=⟨_,rfl⟩;rw [hx] at HVL;obtain⟨xo,xm,xs⟩:=x;simp only at HVL
   have HFB:Hid (Bp C n (dR k) W n6=!decide (xm=0)):=by show _=_;unfold Bp;rw [hx];simp [h6]
   clear hx h3 h6;by_cases e:xm=0
   ·
    subst e;have hfd:∀ v:ο,(Instr.field 60 (χ #[ι κ xo,ι κ 0,τ xs]) 1).run μ v=.ok (ι κ 0) v:=λv=>Tryz.fieldVal _ _ _ v;go_wp2_with (go_at_call 81;refine HVL.mono ?_;rintro e w4 ⟨rfl,hb4⟩)
    go_roundw
    case rel=>exact⟨k+1,A,g,cap,f,by omega,by go_num,rfl,by rw [HST0.out,HFB.out];simp [Eb],hRO.later hb4,AA hbr hb4⟩
    case measure=>simp [VQ];omega
   ·
    have n1:(xm != 0)=true:=by simpa using e
    have HST:Hid (C4 C n dm dR W n6 (k+1)=A ++ Eb true (dm k,dR k)):=by
     show _=_
     rw [HST0.out,HFB.out];simp [e]
    clear e;have hfd:∀ v:ο,(Instr.field 60 (χ #[ι κ xo,ι κ xm,τ xs]) 1).run μ v=.ok (ι κ xm) v:=λv=>Tryz.fieldVal _ _ _ v;go_wp2_with (first | (at_builtin;have _h:=hb4;refine VR _ rfl _ _ _ rfl (w.heap.size+1) 30 jr (σ ν 0 0) 1 24 Tryz.underlying43 HIr.out hzr0 hzr1 hzr2 rfl (by omega) (σ (ς ⟨g,0,ν⟩) A.length cap) A.length (BU f A.length) rfl (hRO4.later (AD _ _)).own ⟨w4.heap.size,0,ν⟩ 1 1 [σ ai n ci] rfl rfl (VI (η w4 _)) (Bt _ rfl) (by omega) (by unfold maxLen;omega) (by omega) (by simp;omega) _ rfl ?_;intro g8 cap8 w8 hO8 hgr8 hat8 hlt8) | (go_at_call 81;refine HVL.mono ?_;rintro e w4 ⟨rfl,hb4⟩;have hRO4:=hRO.later hb4;have hss4:=hb4.size))
    have hL4:Liv (λb=>b<w0.heap.size/\ς b≠(σ (ς ⟨g,0,ν⟩) A.length cap).ownBlock) w4 (ER [σ ai n ci] (dm k,dR k)):=(HLE.out _ (AA hb0 (AA hbw hb4))).wide (λb hx _=>⟨hx,by show ς b≠ς g;intro e2;have e3:b=g:=VF e2;omega⟩);have hP8:=GO.snoc (x:=(dm k,dR k)) (hRO4.later (AD _ _)) (c:=[σ ai n ci]) rfl (hL4.later (AD _ _)) hO8 hgr8 hat8;have hb8:=gB (AA (AA hbr hb4) (AD _ _)) (r:=g) hgr8 (by omega);have eA:(A ++ [(dm k,dR k)]).length=A.length+1:=by simp
    go_roundw
    case rel=>exact⟨k+1,A ++ [(dm k,dR k)],g8,cap8,_,by omega,by go_num,by rw [eA],by rw [HST.out];rfl,hP8,hb8⟩
    case measure=>simp [VQ];omega
set_option maxHeartbeats 4000000
def CP(X:Nat->Itm):Nat->Nat
 | 0=>0
 | k+1=>max (CP X k) (X k).s.size
theorem Lp{X:Nat->Itm}:∀ {n:Nat},(∀ k,k<n->(X k).s.size<=1048576)->CP X n<=1048576
 | 0,_=>by simp [CP]
 | n+1,h=>by
  have:=Lp (X:=X) (n:=n) (λk hk=>h k (by omega));have h2:=h n (by omega);rw [CP];omega
theorem Lo{C:Nat->Clm}{n:Nat}{F:Nat->Itm}{m7:Nat->Nat}{O:Nat->Nat->Itm}:∀ {k:Nat},CO C n F m7 O k=decide (200<CP (λi=>Bv C n F (O i) (m7 i)) k)
 | 0=>by simp [CO,CP]
 | k+1=>by
  rw [CO,Lo (k:=k),CP];by_cases h1:200<CP (λi=>Bv C n F (O i) (m7 i)) k <;> by_cases h2:200<(Bv C n F (O k) (m7 k)).s.size <;> simp [h1,h2] <;> omega
theorem Ha(a:Option Addr)(m c:Nat)(X:Nat->Itm)(w:ο)(h:IL w a m X)(hm:m<=1048576) :
 VK μ 82 #[σ a m c] w λe w'=>e=ρ (ι κ (CP X m))/\υ w.heap.size w w':=by
 have hle:∀ k,k<=m->CP X k<=1048576:=λk hk=>Lp (λj hj=>by obtain⟨_,_,_,_,_,_,hz⟩:=h j (by omega);exact hz);have HLE:Hid (∀ k,k<=m->CP X k<=1048576):=hle;clear hle;go_enter Tryz.func82,Tryz.ntmps82
 go_wp2;go_loopw [3,5,8] (λv _ i wr=>∃ k:Nat,k<=m/\i=ι κ k/\v=ι κ (CP X k)/\υ w.heap.size w wr) (λ_ _ i _=>m - (VQ i).toNat)
 case atStart=>exact⟨0,VS _,rfl,rfl,VT _ _⟩
 case round=>
  obtain⟨k,hk,rfl,rfl,hb⟩:=hrel;by_cases hlt:k<m
  ·
   obtain⟨b,off,rfl,c0,c1,c2,hs⟩:=h.later hb k hlt;have hkm:(k:Int)<m:=by omega
   have HN:Hid (CP X (k+1)=max (CP X k) (X k).s.size):=rfl;have hl0:=HLE.out k (by omega);obtain⟨y,hy⟩:∃ y,CP X k=y:=⟨_,rfl⟩;rw [hy] at HN hl0 ⊢;clear hy;obtain⟨xo,xm,xs,hx⟩:∃ xo xm xs,X k=⟨xo,xm,xs⟩:=⟨_,_,_,rfl⟩;rw [hx] at HN c0 c1 c2 hs;simp only at HN c0 c1 c2 hs
   clear hx;go_wp2;go_roundw
   case rel=>exact⟨k+1,by omega,by go_num,by rw [HN.out];first | rfl | (congr 1;omega),AA hb (AD _ _)⟩
   case measure=>simp [VQ];omega
  ·
   obtain rfl:k=m:=by omega
   go_wp2;go_ret
   exact⟨rfl,hb⟩
def PV(w:ο)(gv n q:Nat)(X:Nat->Itm):Prop:=∃ cur:Array VN,w.heap[gv]?=ς (γ cur 60 (0,0))/\cur.size=n * 3/\∀ i,i<q->cur[i * 3]?=ς (ι κ (X i).o)/\cur[i * 3+1]?=ς (ι κ (X i).m)/\cur[i * 3+2]?=ς (τ (X i).s)
theorem PV.later{w w':ο}{gv n q:Nat}{X:Nat->Itm}(h:PV w gv n q X)(hb:υ w.heap.size w w'):PV w' gv n q X:=by
 obtain⟨cur,h1,h2,h3⟩:=h;exact⟨cur,AC h1 hb,h2,h3⟩
theorem PV.cell{w:ο}{gv n q j:Nat}{X:Nat->Itm}(h:PV w gv n q X)(hj:j<n):∃ v0 v1 v2,w.cell? ⟨gv,j * 3,ν⟩=ς v0/\w.cell? ⟨gv,j * 3+1,ν⟩=ς v1/\w.cell? ⟨gv,j * 3+2,ν⟩=ς v2/\w.frozen? ⟨gv,j * 3,ν⟩=false/\w.frozen? ⟨gv,j * 3+1,ν⟩=false/\w.frozen? ⟨gv,j * 3+2,ν⟩=false:=by
 obtain⟨cur,h1,h2,-⟩:=h;obtain⟨v0,e0⟩:=NM (A:=cur) (k:=j * 3) (by omega);obtain⟨v1,e1⟩:=NM (A:=cur) (k:=j * 3+1) (by omega);obtain⟨v2,e2⟩:=NM (A:=cur) (k:=j * 3+2) (by omega);exact⟨v0,v1,v2,(ε _ _ _ _ _ _ h1).trans e0,(ε _ _ _ _ _ _ h1).trans e1,(ε _ _ _ _ _ _ h1).trans e2,ζ _ _ _ _ _ h1,ζ _ _ _ _ _ h1,ζ _ _ _ _ _ h1⟩
theorem PV.set{w:ο}{gv n q:Nat}{X:Nat->Itm}{x:Itm}(h:PV w gv n q X)(hq:q<n)(hx:X q=x):PV (((w.setCell ⟨gv,q * 3,ν⟩ (ι κ x.o)).setCell ⟨gv,q * 3+1,ν⟩ (ι κ x.m)).setCell ⟨gv,q * 3+2,ν⟩ (τ x.s)) gv n (q+1) X:=by
 obtain⟨cur,h1,h2,h3⟩:=h;refine⟨_,π _ _ (q * 3+2) _ _ _ (π _ _ (q * 3+1) _ _ _ (π _ _ (q * 3) _ _ _ h1)),by simp [h2],λi hi=>?_⟩;by_cases e:i=q
 · subst e;rw [hx];refine⟨?_,?_,?_⟩ <;> simp [Array.getElem?_setIfInBounds] <;> omega
 ·
  obtain⟨a0,a1,a2⟩:=h3 i (by omega);simp only [Array.getElem?_setIfInBounds]
  refine⟨?_,?_,?_⟩
  · rw [if_neg (by omega),if_neg (by omega),if_neg (by omega)];exact a0
  · rw [if_neg (by omega),if_neg (by omega),if_neg (by omega)];exact a1
  · rw [if_neg (by omega),if_neg (by omega),if_neg (by omega)];exact a2
theorem PV.il{w:ο}{gv n:Nat}{X:Nat->Itm}(h:PV w gv n n X)(hs:∀ i,i<n->(X i).s.size<=1048576):IL w (ς ⟨gv,0,ν⟩) n X:=λk hk=>by
 obtain⟨cur,h1,h2,h3⟩:=h;obtain⟨a0,a1,a2⟩:=h3 k hk;refine⟨gv,0,rfl,?_,?_,?_,hs k hk⟩
 · rw [VM];exact(ε _ _ _ _ _ _ h1).trans a0
 · rw [VM];exact(ε _ _ _ _ _ _ h1).trans a1
 · rw [VM];exact(ε _ _ _ _ _ _ h1).trans a2
theorem OD.grown{D:Nat->Prop}{w w':ο}{a:Option Addr}{A:List Rw}{r:Option Nat}(h:OD D w a A)(hg:w.grownBy w' r)(hD:∀ b,D b->ς b≠r):OD D w' a A:=λk hk=>by
 obtain⟨b,off,i,c,e,hd,c0,hl⟩:=h k hk;exact⟨b,off,i,c,e,hd,(World.cell?_of_block (hg.block _ (World.block_lt_of_cell? w _ c0) (hD _ hd))).trans c0,hl.grown hg hD⟩
theorem QO{C:Nat->Clm}{n:Nat}{m:Nat->Nat}{R:Nat->Nat->Itm}{W:Nat->Itm}{n6:Nat}{m7:Nat->Nat}{O:Nat->Nat->Itm}{n7:Nat}:∀ k,Gf C n R W n6 m7 O n7 k=(C4 C n m R W n6 k).map (λx=>Kg C n x.2 m7 O n7)/\Gy C n R W n6 m7 O n7 k=(C4 C n m R W n6 k).any (λx=>CO C n x.2 m7 O n7)
 | 0=>⟨rfl,rfl⟩
 | k+1=>by
  obtain⟨h1,h2⟩:=QO (C:=C) (n:=n) (m:=m) (R:=R) (W:=W) (n6:=n6) (m7:=m7) (O:=O) (n7:=n7) k;rw [Gf,Gy,C4,List.map_append,List.any_append,h1,h2];rcases Bp C n (R k) W n6 <;> simp [Eb]
def WR(w:ο)(lo hi:Nat)(t:TypeId)(z:Nat)(a:Option Addr)(n:Nat):Prop:=
 n=0∨∃ g cur,a=ς ⟨g,0,ν⟩/\lo<=g/\g<hi/\w.heap[g]?=ς (γ cur t (0,0))/\n * z<=cur.size
def KpR(lo hi:Nat)(w w':ο):Prop:=∀ g,lo<=g->g<hi->∀ o,w.heap[g]?=ς o->w'.heap[g]?=ς o
theorem KpR.trans{lo hi:Nat}{a b c:ο}(h:KpR lo hi a b)(k:KpR lo hi b c):KpR lo hi a c:=λg h1 h2 o hg=>k g h1 h2 o (h g h1 h2 o hg)
theorem KpR.set{lo hi R i:Nat}{w:ο}{v:VN}(h:R<lo):KpR lo hi w (w.setCell ⟨R,i,ν⟩ v):=λg h1 _ o hg=>Af hg (by omega)
def RowsAt(w:ο)(lo gg n7 L:Nat)(f:Nat->List VN):Prop:=∃ B:Nat->Nat,(∀ i,i<L->f i=[σ (ς ⟨B i,0,ν⟩) n7 n7]/\lo<=B i/\B i≠gg/\∃ cur,w.heap[B i]?=ς (γ cur 60 (0,0))/\cur.size=n7 * 3)/\∀ i k,k<i->i<L->B k<B i
theorem RowsAt.nil(w:ο)(lo gg n7:Nat)(f:Nat->List VN):RowsAt w lo gg n7 0 f:=⟨λ_=>0,λi hi=>by omega,λi k _ hi=>by omega⟩
theorem RowsAt.snoc{wo v w8:ο}{lo gg n7 L g8:Nat}{f:Nat->List VN}(h:RowsAt wo lo gg n7 L f)(hlo:lo<=wo.heap.size)(hgg:gg<wo.heap.size)(hbx:υ wo.heap.size wo v)(hnew:∃ cur,v.heap[wo.heap.size]?=ς (γ cur 60 (0,0))/\cur.size=n7 * 3)(hgr:v.grownBy w8 (ς gg))(hat:ς gg=ς g8∨g8=v.heap.size):RowsAt w8 lo g8 n7 (L+1) (λi=>if i<L then f i else [σ (ς ⟨wo.heap.size,0,ν⟩) n7 n7]):=by
 obtain⟨B,h1,h2⟩:=h;obtain⟨cur,hn1,hn2⟩:=hnew;have hlt:∀ i,i<L->B i<wo.heap.size:=λi hi=>by
  obtain⟨-,-,-,c,hc,-⟩:=h1 i hi;exact(VL.1 hc).1
 have hsz:=hbx.size;have hnl:=(VL.1 hn1).1;have hg8:g8=gg∨g8=v.heap.size:=by
  rcases hat with e | e
  · exact VV (VF e).symm
  · exact Vb e
 have hne:∀ b,b≠gg->ς b≠ς gg:=λb hb e=>hb (VF e);refine⟨λi=>if i<L then B i else wo.heap.size,λi hi=>?_,λi k hk hi=>?_⟩
 ·
  by_cases e:i<L
  ·
   obtain⟨e1,e2,e3,c,hc,hs⟩:=h1 i e;have:=hlt i e;simp only [if_pos e]
   exact⟨e1,e2,by omega,c,Bl (AC hc hbx) hgr (hne _ e3),hs⟩
  ·
   simp only [if_neg e]
   exact⟨trivial,hlo,by omega,cur,Bl hn1 hgr (hne _ (by omega)),hn2⟩
 ·
  simp only
  by_cases e:i<L
  · rw [if_pos e,if_pos (by omega)];exact h2 i k hk e
  · rw [if_neg e,if_pos (by omega)];exact hlt k (by omega)
def Apt(lo:Nat)(w:ο)(a:Option Addr)(A:List Rw):Prop:=A.length=0∨∃ (gg:Nat) (cur:Array VN) (B C:Nat->Nat),a=ς ⟨gg,0,ν⟩/\lo<=gg/\w.heap[gg]?=ς (γ cur 30 (0,0))/\(∀ i,i<A.length->cur[i]?=ς (σ (ς ⟨B i,0,ν⟩) (A.getD i r0).1 (C i)))/\(∀ i,i<A.length->WR w lo w.heap.size 60 3 (ς ⟨B i,0,ν⟩) (A.getD i r0).1)/\(∀ i,i<A.length->B i≠gg)/\∀ i k,k<i->i<A.length->B k<B i
theorem RowsAt.apt{G lo lo' gg cap n7:Nat}{D:Nat->Prop}{w:ο}{A:List Rw}{f:Nat->List VN}(h:RowsAt w lo gg n7 A.length f)(hRO:RO G D w (σ (ς ⟨gg,0,ν⟩) A.length cap) A.length (λi=>A.getD i r0) f)(hA:∀ x∈A,x.1=n7)(h1:lo'<=lo)(h2:lo'<=G):Apt lo' w (ς ⟨gg,0,ν⟩) A:=by
 by_cases e0:A.length=0
 · exact VV e0
 obtain⟨B,hB,hI⟩:=h;have hrow:∃ cur,w.heap[gg]?=ς (γ cur 30 (0,0)):=by
  obtain⟨_,hh⟩:=hRO.own;rcases hh with hh | ⟨g',cap',cur,e1,e2,e3,e4,e5,e6,e7⟩
  · exact absurd hh.2 e0
  ·
   obtain⟨rfl,-⟩:gg=g'/\True:=by
    simp only [Value.slice.injEq,Option.some.injEq,Addr.mk.injEq] at e1
    exact⟨e1.1.1,trivial⟩
   exact⟨cur,e3⟩
 obtain⟨cur,hrow⟩:=hrow;have hgl:=hRO.own.lt gg rfl;refine Vb ⟨gg,cur,B,λ_=>n7,rfl,by omega,hrow,λi hi=>?_,λi hi=>?_,λi hi=>(hB i hi).2.2.1,hI⟩
 · have hc:=GO.cell hRO (i:=i) (j:=0) hi (by omega);rw [(hB i hi).1,Nat.mul_one,Vf,ε _ _ _ _ _ _ hrow] at hc;rw [hc,hA _ (Ae (y:=r0) hi)];rfl
 · obtain⟨-,e2,-,c,hc,hs⟩:=hB i hi;exact Vb ⟨B i,c,rfl,by omega,(VL.1 hc).1,hc,by rw [hA _ (Ae (y:=r0) hi)];omega⟩
def Tz(w:ο)(A:List Rw)(cd:Int)(e:Ending)(w':ο):Prop:=∃ a' c',e=ρ (θ #[σ a' A.length c',ι κ cd])/\OD (λb=>w.heap.size<=b) w' a' A/\Apt w.heap.size w' a' A/\υ w.heap.size w w'
theorem WR.wide{w w':ο}{lo lo' hi hi':Nat}{t:TypeId}{z:Nat}{a:Option Addr}{n:Nat}(h:WR w lo hi t z a n)(hb:υ w.heap.size w w')(h1:lo'<=lo)(h2:hi<=hi'):WR w' lo' hi' t z a n:=by
 rcases h with h | ⟨g,cur,e1,e2,e3,e4,e5⟩
 · exact VV h
 · exact Vb ⟨g,cur,e1,by omega,by omega,AC e4 hb,e5⟩
theorem Apt.later{lo lo':Nat}{w w':ο}{a:Option Addr}{A:List Rw}(h:Apt lo w a A)(hb:υ w.heap.size w w')(h1:lo'<=lo):Apt lo' w' a A:=by
 rcases h with h | ⟨gg,cur,B,C,e1,e2,e3,e4,e5,e6,e7⟩
 · exact VV h
 · exact Vb ⟨gg,cur,B,C,e1,by omega,AC e3 hb,e4,λi hi=>(e5 i hi).wide hb h1 hb.size,e6,e7⟩
set_option maxHeartbeats 16000000
def H8(C:Nat->Clm)(n:Nat)(R:Nat->Nat->Itm)(W:Nat->Itm)(n6:Nat)(m7:Nat->Nat)(O:Nat->Nat->Itm)(n7 r:Nat):List Rw×Int:=
 if Gy C n R W n6 m7 O n7 r=true then ([],6) else (Gf C n R W n6 m7 O n7 r,0)
theorem NO{F:List Rw}{k:Nat}(h:k<F.length):F.take (k+1)=F.take k ++ [F.getD k r0]:=by
 rw [List.take_add_one];simp [h]
theorem Pw(ac:Option Addr)(n cc:Nat)(C:Nat->Clm)(mb:Nat)(ar:Option Addr)(dr cr:Nat)(dm:Nat->Nat)(dR:Nat->Nat->Itm)(k0:Int)(tb:ByteArray)(a2:Option Addr)(n2 c2:Nat)(a3:Option Addr)(n3 c3:Nat)(col:ByteArray)(a5:Option Addr)(n5 c5:Nat)(a6:Option Addr)(n6 c6:Nat)(a7:Option Addr)(n7 c7:Nat)(W:Nat->Itm)(m7:Nat->Nat)(O:Nat->Nat->Itm)(w:ο)(hP:PlAt w mb n C)(hdp:∀ k,k<n->AR C (C k).s k=false)(hR:OL w ar dr dm dR)(hW:IL w a6 n6 W)(hOu:OL w a7 n7 m7 O)(hok:AI W n6=true)(hcw:CM C n W n6=0)(hex:∀ i,i<n7->AZ (O i) (m7 i)=true/\(ck C n (O i) (m7 i)).2=0)(hN:Nice n dr dm dR)(hg:∀ k,k<dr->Bc n C (dR k))(h7:n7<=1048576) :
 VK μ 35 #[χ #[σ ac n cc,.map (ς mb)],σ ar dr cr,χ #[ι κ k0,τ tb,σ a2 n2 c2,σ a3 n3 c3,τ col,σ a5 n5 c5,σ a6 n6 c6,σ a7 n7 c7]] w (Tz w (H8 C n dR W n6 m7 O n7 dr).1 (H8 C n dR W n6 m7 O n7 dr).2):=by
 have hbU:υ w.heap.size w (((w.alloc (γ #[σ ac n cc,.map (ς mb)] 77)).alloc (γ #[ι κ k0,τ tb,σ a2 n2 c2,σ a3 n3 c3,τ col,σ a5 n5 c5,σ a6 n6 c6,σ a7 n7 c7] 34)).alloc (γ #[] 30)):=Ay _ _ _ _;have hsU:(((w.alloc (γ #[σ ac n cc,.map (ς mb)] 77)).alloc (γ #[ι κ k0,τ tb,σ a2 n2 c2,σ a3 n3 c3,τ col,σ a5 n5 c5,σ a6 n6 c6,σ a7 n7 c7] 34)).alloc (γ #[] 30)).heap.size=w.heap.size+3:=by rw [ω,ω,ω]
 have hq0:(((w.alloc (γ #[σ ac n cc,.map (ς mb)] 77)).alloc (γ #[ι κ k0,τ tb,σ a2 n2 c2,σ a3 n3 c3,τ col,σ a5 n5 c5,σ a6 n6 c6,σ a7 n7 c7] 34)).alloc (γ #[] 30)).heap[w.heap.size]?=ς (γ #[σ ac n cc,.map (ς mb)] 77 (0,0)):=AC (AC (η w _) (AD _ _)) (AD _ _);have hq1:(((w.alloc (γ #[σ ac n cc,.map (ς mb)] 77)).alloc (γ #[ι κ k0,τ tb,σ a2 n2 c2,σ a3 n3 c3,τ col,σ a5 n5 c5,σ a6 n6 c6,σ a7 n7 c7] 34)).alloc (γ #[] 30)).heap[w.heap.size+1]?=ς (γ #[ι κ k0,τ tb,σ a2 n2 c2,σ a3 n3 c3,τ col,σ a5 n5 c5,σ a6 n6 c6,σ a7 n7 c7] 34 (0,0)):=by
  have q:=η (w.alloc (γ #[σ ac n cc,.map (ς mb)] 77)) (γ #[ι κ k0,τ tb,σ a2 n2 c2,σ a3 n3 c3,τ col,σ a5 n5 c5,σ a6 n6 c6,σ a7 n7 c7] 34);rw [ω] at q;exact AC q (AD _ _)
 have hOE:(((w.alloc (γ #[σ ac n cc,.map (ς mb)] 77)).alloc (γ #[ι κ k0,τ tb,σ a2 n2 c2,σ a3 n3 c3,τ col,σ a5 n5 c5,σ a6 n6 c6,σ a7 n7 c7] 34)).alloc (γ #[] 30)).ownsRow (w.heap.size+1+1) 30 1 (σ (ς ⟨w.heap.size+1+1,0,ν⟩) 0 0) 0 []:=by
  have q:=VU (base:=w.heap.size+1+1) (e:=30) (size:=1) ((w.alloc (γ #[σ ac n cc,.map (ς mb)] 77)).alloc (γ #[ι κ k0,τ tb,σ a2 n2 c2,σ a3 n3 c3,τ col,σ a5 n5 c5,σ a6 n6 c6,σ a7 n7 c7] 34)) #[] 0 (by rw [ω,ω];exact VD _) (by unfold maxLen;omega) rfl;rw [ω,ω] at q;exact q
 obtain⟨c0,c1⟩:(((w.alloc (γ #[σ ac n cc,.map (ς mb)] 77)).alloc (γ #[ι κ k0,τ tb,σ a2 n2 c2,σ a3 n3 c3,τ col,σ a5 n5 c5,σ a6 n6 c6,σ a7 n7 c7] 34)).alloc (γ #[] 30)).cell? ⟨w.heap.size,0,ν⟩=ς (σ ac n cc)/\(((w.alloc (γ #[σ ac n cc,.map (ς mb)] 77)).alloc (γ #[ι κ k0,τ tb,σ a2 n2 c2,σ a3 n3 c3,τ col,σ a5 n5 c5,σ a6 n6 c6,σ a7 n7 c7] 34)).alloc (γ #[] 30)).cell? ⟨w.heap.size,1,ν⟩=ς (.map (ς mb)):=⟨ε _ _ 0 _ _ _ hq0,ε _ _ 1 _ _ _ hq0⟩;obtain⟨-,-,-,-,-,-,d6_,-⟩:=AJ hq1;have HF:=Er ac n cc C mb ar dr cr dm dR a6 n6 c6 W w _ hbU (hP.later hbU) hdp hR (hW.later hbU) hok hcw hN hg;have hr1:=hN.r1;have hn1:=hN.n1;obtain⟨F,hF⟩:∃ F,C4 C n dm dR W n6 dr=F:=⟨_,rfl⟩;have hFl:F.length<=dr:=by rw [←hF];exact DH
 have HM:Hid (∀ x∈F,x.1=n/\Bc n C x.2):=by
  show ∀ x∈F,_
  rw [←hF];exact Ci (P:=λx=>x.1=n/\Bc n C x.2) (λj hj=>⟨hN.len j hj,hg j hj⟩)
 have HCH:Hid (H8 C n dR W n6 m7 O n7 dr=if F.any (λx=>CO C n x.2 m7 O n7)=true then ([],6) else (F.map (λx=>Kg C n x.2 m7 O n7),0)):=by
  show _=_
  obtain⟨e1,e2⟩:=QO (C:=C) (n:=n) (m:=dm) (R:=dR) (W:=W) (n6:=n6) (m7:=m7) (O:=O) (n7:=n7) dr;unfold H8;rw [e1,e2,hF]
 rw [hF] at HF;have HPL:Hid (PlAt w mb n C/\(∀ k,k<n->AR C (C k).s k=false)):=⟨hP,hdp⟩;have HEX:Hid (∀ i,i<n7->AZ (O i) (m7 i)=true/\(ck C n (O i) (m7 i)).2=0):=hex;clear hF hP hdp hR hW hok hcw hex hN hg;obtain⟨jr,hir,hzr0,hzr1,hzr2⟩:=info_parts Tryz.infoRow;have HIr:Hid (Tryz.prog.info? 30=ς jr):=hir;clear hir;go_enter Tryz.func35,Tryz.ntmps35
 go_wp2_with (go_at_call 80;refine HF.mono ?_;rintro e w1 ⟨a1,c1',rfl,hOD,hb1⟩)
 have hOD1:=hOD.cut;have y0:=AC hq0 hb1;have y1:=AC hq1 hb1;have hOE1:=AF hOE hb1;have hbw1:=AA hbU hb1;have hs1:w.heap.size+3<=w1.heap.size:=by have:=hb1.size;omega
 rw [hsU] at hOD1;clear hOD hq0 hq1 hOE c0 c1 d6_ hbU HF;go_loopw [8,10,11,12,13,21] (λv _ _ _ _ i wr=>∃ (k:Nat) (A:List Rw) (gg cap:Nat) (f:Nat->List VN),k<=F.length/\i=ι κ k/\v=σ (ς ⟨gg,0,ν⟩) A.length cap/\(F.take k).map (λx=>Kg C n x.2 m7 O n7)=A/\(F.take k).any (λx=>CO C n x.2 m7 O n7)=false/\RO (w.heap.size+1+1) (λb=>w1.heap.size<=b) wr (σ (ς ⟨gg,0,ν⟩) A.length cap) A.length (λi=>A.getD i r0) f/\RowsAt wr w1.heap.size gg n7 A.length f/\(gg=w.heap.size+1+1∨w1.heap.size<=gg)/\wr.heap[w.heap.size]?=ς (γ #[σ ac n cc,.map (ς mb)] 77 (0,0))/\wr.heap[w.heap.size+1]?=ς (γ #[ι κ k0,τ tb,σ a2 n2 c2,σ a3 n3 c3,τ col,σ a5 n5 c5,σ a6 n6 c6,σ a7 n7 c7] 34 (0,0))/\OD (λb=>(b<w.heap.size∨w.heap.size+3<=b)/\b<w1.heap.size) wr a1 F/\υ w.heap.size w wr/\w1.heap.size<=wr.heap.size) (λ_ _ _ _ _ i _=>F.length - (VQ i).toNat)
 case atStart=>exact⟨0,[],w.heap.size+1+1,0,λ_=>[],VS _,rfl,rfl,by simp,by simp,GO.nil hOE1,RowsAt.nil _ _ _ _ _,VV rfl,y0,y1,hOD1,hbw1,VD _⟩
 case round=>
  obtain⟨k,A,gg,cap,f,hk,rfl,rfl,hse,hsg,hRO,hRA,hgb,q0,q1,hODr,hbw,hsr⟩:=hrel;have HSS:Hid ((F.take k).map (λx=>Kg C n x.2 m7 O n7)=A/\(F.take k).any (λx=>CO C n x.2 m7 O n7)=false):=⟨hse,hsg⟩;have hAl:A.length<=1000000:=by rw [←hse];simp;omega
  clear hse hsg y0 y1 hOD1 hOE1 hbw1;have hgl:=hRO.own.lt gg rfl;by_cases hlt:k<F.length
  rotate_left
  ·
   obtain rfl:k=F.length:=by omega
   have HA:Hid (H8 C n dR W n6 m7 O n7 dr=(A,0)):=by
    show _=_
    have h1:=HSS.out.1;have h2:=HSS.out.2;rw [List.take_length] at h1 h2;rw [HCH.out,h1,h2,if_neg (by simp)]
   obtain⟨a',c',e',hOD2⟩:=RO.od (D':=λb=>w.heap.size<=b) hRO (λb h=>by omega) (λb h=>by omega);obtain⟨rfl,rfl⟩:ς ⟨gg,0,ν⟩=a'/\cap=c':=by simpa using e'
   have hAp:=hRA.apt (lo':=w.heap.size) hRO (λx hx=>by
    rw [←HSS.out.1] at hx;obtain⟨y,-,rfl⟩:=List.mem_map.1 hx;rfl) (by omega) (by omega)
   go_wp2;refine VE (VZ rfl _ _ _) rfl ?_;rw [HA.out];exact⟨_,_,rfl,hOD2,hAp,hbw⟩
  have HNX:Hid ((F.take (k+1)).map (λx=>Kg C n x.2 m7 O n7)=A ++ [Kg C n (F.getD k r0).2 m7 O n7]/\(F.take (k+1)).any (λx=>CO C n x.2 m7 O n7)=CO C n (F.getD k r0).2 m7 O n7):=by
   rw [Hid,NO hlt,List.map_append,List.any_append,HSS.out.1,HSS.out.2];exact⟨rfl,by simp⟩
  have HBG:Hid (CO C n (F.getD k r0).2 m7 O n7=true->H8 C n dR W n6 m7 O n7 dr=([],6)):=λhb=>by
   rw [HCH.out,if_pos (List.any_eq_true.2 ⟨_,Ae (y:=r0) hlt,hb⟩)]
  obtain⟨hm,hgR⟩:=HM.out _ (Ae (y:=r0) hlt);obtain⟨bR,offR,ai,ci,rfl,-,d1,hl⟩:=hODr k hlt;obtain⟨ai',ci',e',hI,-⟩:=hl.now;simp only [List.cons.injEq,and_true,Value.slice.injEq,true_and] at e'
  obtain⟨rfl,rfl⟩:=e';obtain⟨mX,X,hX⟩:∃ m X,F.getD k r0=(m,X):=⟨_,_,rfl⟩;rw [hX] at hm hgR d1 hI HNX HBG;simp only at hm hgR d1 hI HNX HBG
  subst hm;clear hX hl;have hkr:(k:Int)<F.length:=by omega
  have HGR:Hid (Bc mX C X):=hgR;have HVL:Hid (∀ i,i<n7->∀ aO cO W',IL W' aO (m7 i) (O i)->υ wr.heap.size wr W'->VK μ 81 #[χ #[σ ac mX cc,.map (ς mb)],σ aO (m7 i) cO,σ ai mX ci] W' (λe w'=>e=ρ (χ #[ι κ (Bv C mX X (O i) (m7 i)).o,ι κ (Bv C mX X (O i) (m7 i)).m,τ (Bv C mX X (O i) (m7 i)).s])/\υ W'.heap.size W' w')):=λi hi aO cO W' hIO hW'=>by
   obtain⟨ho,hc⟩:=HEX.out i hi;obtain⟨x1,x2,x3⟩:=BX ho;exact Gj ac mX cc C mb ai ci X aO (m7 i) cO (O i) W' (HPL.out.1.later (AA hbw hW')) HPL.out.2 (hI.later hW') hIO x1 x3 hc HGR.out
  have HVX:Hid (∀ i,i<n7->(Bv C mX X (O i) (m7 i)).s.size<=1048576):=λi hi=>by
   obtain⟨ho,-⟩:=HEX.out i hi;obtain⟨x1,x2,x3⟩:=BX ho;exact Do (λj hj=>(HGR.out j hj).1) x3 x1 x2
  have hOuR:=hOu.later hbw;clear hgR;obtain⟨wo,hwo⟩:∃ v,v=wr:=⟨_,rfl⟩;subst hwo;have hmk:=Ej (t:=30) Tryz.underlying30 Tryz.infoVal n7 h7 (by omega) wo;have qo:=(AJ q1).2.2.2.2.2.2.2;have qx:=(AJ (AC q1 (AD wo (γ (madeCells (χ #[ι κ 0,ι κ 0,τ VG]).cells (n7 * 3)) 60)))).2.2.2.2.2.2.2;have hPV0:PV (wo.alloc (γ (madeCells (χ #[ι κ 0,ι κ 0,τ VG]).cells (n7 * 3)) 60)) wo.heap.size n7 0 (λi=>Bv C mX X (O i) (m7 i)):=⟨_,η _ _,CH _ _,λj hj=>by omega⟩;have hbm:=AD wo (γ (madeCells (χ #[ι κ 0,ι κ 0,τ VG]).cells (n7 * 3)) 60);generalize wo.alloc (γ (madeCells (χ #[ι κ 0,ι κ 0,τ VG]).cells (n7 * 3)) 60)=wm at hmk qx hPV0 hbm;go_wp2;clear hmk;go_loopw [12,13,32] (λ_ _ i wr=>∃ (q:Nat),q<=n7/\i=ι κ q/\PV wr wo.heap.size n7 q (λi=>Bv C mX X (O i) (m7 i))/\υ wo.heap.size wo wr) (λ_ _ i _=>n7 - (VQ i).toNat)
  case atStart=>exact⟨0,VS _,rfl,hPV0,hbm⟩
  case round=>
   obtain⟨q,hq,rfl,hPV,hbr⟩:=hrel;clear hPV0 hbm qx qo;have p0:=AC q0 hbr;obtain⟨s0,s1⟩:wr.cell? ⟨w.heap.size,0,ν⟩=ς (σ ac mX cc)/\wr.cell? ⟨w.heap.size,1,ν⟩=ς (.map (ς mb)):=⟨ε _ _ 0 _ _ _ p0,ε _ _ 1 _ _ _ p0⟩;by_cases hql:q<n7
   ·
    obtain⟨bO,offO,aO,cO,rfl,dO,hIO,-⟩:=hOuR.later hbr q hql;try simp only at dO hIO
    have hqn:(q:Int)<n7:=by omega
    have HV:=HVL.out q hql aO cO wr hIO hbr;obtain⟨xo_,xm,xs,hx⟩:∃ xo xm xs,Bv C mX X (O q) (m7 q)=⟨xo,xm,xs⟩:=⟨_,_,_,rfl⟩;have HX:Hid ((λi=>Bv C mX X (O i) (m7 i)) q=⟨xo_,xm,xs⟩):=hx;rw [hx] at HV;simp only at HV
    clear hx;go_wp2_with (go_at_call 81;refine HV.mono ?_;rintro e w6 ⟨rfl,hb6⟩;have hPV6:=hPV.later hb6;obtain⟨v0,v1,v2,g0,g1,g2,f0,f1,f2⟩:=hPV6.cell hql)
    have hPV7:=PV.set (x:=⟨xo_,xm,xs⟩) hPV6 hql HX.out;simp only at hPV7
    have hb7:υ wo.heap.size wo (((w6.setCell ⟨wo.heap.size,q * 3,ν⟩ (ι κ xo_)).setCell ⟨wo.heap.size,q * 3+1,ν⟩ (ι κ xm)).setCell ⟨wo.heap.size,q * 3+2,ν⟩ (τ xs)):=((((AA hbr hb6).setCell (VD _) _).setCell (VD _) _).setCell (VD _) _);clear g0 g1 g2 f0 f1 f2;generalize (((w6.setCell ⟨wo.heap.size,q * 3,ν⟩ (ι κ xo_)).setCell ⟨wo.heap.size,q * 3+1,ν⟩ (ι κ xm)).setCell ⟨wo.heap.size,q * 3+2,ν⟩ (τ xs))=w7 at hPV7 hb7 ⊢;go_roundw
    case rel=>exact⟨q+1,by omega,by go_num,hPV7,hb7⟩
    case measure=>simp [VQ];omega
   ·
    obtain rfl:q=n7:=by omega
    have hIL:=hPV.il HVX.out;have HLG:=Ha _ q q _ wr hIL h7;have HBG2:Hid (CO C mX X m7 O q=decide (200<CP (λi=>Bv C mX X (O i) (m7 i)) q)):=Lo;obtain⟨y,hy⟩:∃ y,CP (λi=>Bv C mX X (O i) (m7 i)) q=y:=⟨_,rfl⟩;rw [hy] at HLG HBG2;clear hy;by_cases hb200:200<y
    ·
     have hb2:(200:Int)<y:=by omega
     have HA:Hid (H8 C mX dR W n6 m7 O q dr=([],6)):=HBG.out (by rw [HBG2.out];simpa using hb200);go_wp2_with (go_at_call 82;refine HLG.mono ?_;rintro e w7 ⟨rfl,hb7⟩)
     refine VE (VZ rfl _ _ _) rfl ?_;rw [HA.out];exact⟨_,_,rfl,λk hk=>absurd hk (Vc k),VV rfl,AA hbw (AA hbr (AA hb7 (AD _ _)))⟩
    ·
     have hb2:¬(200:Int)<y:=by omega
     have hROr:=hRO.later hbr;have hssr:=hbr.size;go_wp2_with (first | (at_builtin;have _h:=hROr7;refine VR _ rfl _ _ _ rfl (w.heap.size+1+1) 30 jr (σ ν 0 0) 1 24 Tryz.underlying43 HIr.out hzr0 hzr1 hzr2 rfl (by omega) (σ (ς ⟨gg,0,ν⟩) A.length cap) A.length (BU f A.length) rfl (hROr7.later (AD _ _)).own ⟨w7.heap.size,0,ν⟩ 1 1 [σ (ς ⟨wo.heap.size,0,ν⟩) q q] rfl rfl (VI (η w7 _)) (Bt _ rfl) (by omega) (by unfold maxLen;omega) (by omega) (by simp;omega) _ rfl ?_;intro g8 cap8 w8 hO8 hgr8 hat8 hlt8) | (go_at_call 82;refine HLG.mono ?_;rintro e w7 ⟨rfl,hb7⟩;have hROr7:=hROr.later hb7;have hss7:=hb7.size))
     have hLt:Liv (λb=>w1.heap.size<=b/\ς b≠(σ (ς ⟨gg,0,ν⟩) A.length cap).ownBlock) w7 (ER [σ (ς ⟨wo.heap.size,0,ν⟩) q q] (Kg C mX X m7 O q)):=((hIL.later hb7).liv (λb off e=>by
      obtain⟨rfl,-⟩:wo.heap.size=b/\0=off:=by simpa using e
      refine⟨by omega,?_⟩;show ς wo.heap.size≠ς gg
      intro e2;have e3:wo.heap.size=gg:=VF e2;omega)).imp (λ_ h=>⟨_,_,rfl,h,by show q<=_;omega⟩)
     have hP8:=GO.snoc (x:=Kg C mX X m7 O q) (hROr7.later (AD _ _)) (c:=[σ (ς ⟨wo.heap.size,0,ν⟩) q q]) rfl (hLt.later (AD _ _)) hO8 hgr8 hat8;have eA:(A ++ [Kg C mX X m7 O q]).length=A.length+1:=by simp
     have hne:∀ b,b≠gg->ς b≠(σ (ς ⟨gg,0,ν⟩) A.length cap).ownBlock:=λb hb=>by
      show ς b≠ς gg
      intro e2;exact hb (VF e2)
     have hbx:=AA hbr (AA hb7 (AD w7 (γ #[σ (ς ⟨wo.heap.size,0,ν⟩) q q] 30)));have hRA8:=RowsAt.snoc hRA hsr hgl.2 hbx (by
      obtain⟨cur,t1,t2,-⟩:=(hPV.later (AA hb7 (AD w7 (γ #[σ (ς ⟨wo.heap.size,0,ν⟩) q q] 30))));exact⟨cur,t1,t2⟩) hgr8 hat8
     go_roundw
     case rel=>exact⟨k+1,A ++ [Kg C mX X m7 O q],g8,cap8,_,by omega,by go_num,by rw [eA],HNX.out.1,by rw [HNX.out.2,HBG2.out];simpa using hb200,hP8,by rw [eA];exact hRA8,by
      rcases hat8 with e2 | e2
      · have e3:gg=g8:=VF e2;omega
      · rw [ω] at e2;omega,Bl (AC q0 hbx) hgr8 (hne _ (by omega)),Bl (AC q1 hbx) hgr8 (hne _ (by omega)),(hODr.later hbx).grown hgr8 (λb hb=>hne _ (by omega)),JI (AA hbw hbx) hgr8 (λx hx=>hne _ (by omega)),VX hsr (VX hbx.size hgr8.size)⟩
     case measure=>simp [VQ];omega
theorem Dt{d:Td}(h:Br d=true):∀ k,k<d.r->Bc d.n d.C (d.R k):=λk hk j hj=>by
 obtain⟨-,-,-,-,h5,h6⟩:=CF h;have h1:=h6 k hk;have h2:=(Bi h).txt k hk j hj;unfold A5 at h1;simp only [VO,decide_eq_true_eq] at h1
 have h3:=CE h1.1.2 (j:=j) (by omega);have h4:=CE h5 hj;simp only [BB,VO,beq_iff_eq] at h3
 simp only [BJ,VO] at h4
 have h7:=h4.1.2;simp only [C9,Bool.or_eq_true,beq_iff_eq] at h7
 refine⟨h2,?_,h3.1⟩;unfold Bu;rcases h7 with e | e
 ·
  left
  rw [e] at h3;simp only [if_true,decide_eq_true_eq] at h3
  exact⟨h3.1,by
   have:=h3.2;rcases hs:(d.R k j).s with ⟨⟨L⟩⟩
   rw [hs] at this;cases L
   · rfl
   · simp [ByteArray.size] at this⟩
 ·
  right
  rw [e] at h3;simp at h3
  exact⟨h3.1,h3.2.1⟩
theorem Qu{n:Nat}{T:Nat->Td}{D:St}(hk:D.k=5)(h1:A2 n T=true)(h2:AK D=true):(¬(Kj n T D).2=0->A8 n T D=([],(Kj n T D).2))/\((Kj n T D).2=0->∃ j,j<n/\An T D.tb n=ς j/\(Kj n T D).1=(j:Int)/\A8 n T D=H8 (T j).C (T j).n (T j).R D.W D.n6 D.m7 D.O D.n7 (T j).r/\GJ (T j).C (T j).n D.m7 D.O D.n7=0/\CM (T j).C (T j).n D.W D.n6=0):=by
 have hap:(Bf n T D).2=(Kj n T D).2:=by
  unfold Bf Kj;rw [h1,h2,if_neg (by simp),if_neg (by simp),if_neg (by omega)];rcases An T D.tb n with _ | j
  · rfl
  ·
   simp only
   rw [if_neg (by omega),if_neg (by omega),if_neg (by omega)]
 refine⟨λh=>?_,λh=>?_⟩
 · unfold A8;rw [if_neg (by simpa using hk),hap,if_pos h]
 · obtain⟨j,e1,e2,-,-,e3,e4⟩:=Kn hk (hap.trans h);refine⟨j,e2,e1,by unfold Kj;rw [e1],?_,e3,e4⟩;unfold A8 H8;rw [if_neg (by simpa using hk),hap,if_neg (by simpa using h),e1]
theorem NT{n:Nat}{T:Nat->Td}{D:St}(h:¬D.k=5∨A2 n T=false∨AK D=false):A8 n T D=([],7):=by
 unfold A8;by_cases hk:D.k=5
 ·
  have:(Bf n T D).2=7:=by
   unfold Bf;by_cases h1:A2 n T=false
   · rw [if_pos h1]
   · rw [if_neg h1,if_pos (by rcases h with h | h | h;exact absurd hk h;exact absurd h h1;exact h)]
  rw [if_neg (by simpa using hk),this,if_pos (by omega)]
 · rw [if_pos hk]
theorem Pr(a:Option Addr)(n c:Nat)(T:Nat->Td)(k0:Int)(tb:ByteArray)(a2:Option Addr)(n2 c2:Nat)(a3:Option Addr)(n3 c3:Nat)(col:ByteArray)(a5:Option Addr)(n5 c5:Nat)(a6:Option Addr)(n6 c6:Nat)(a7:Option Addr)(n7 c7:Nat)(C:Nat->Clm)(V E W:Nat->Itm)(m7:Nat->Nat)(O:Nat->Nat->Itm)(D:St)(hD:(⟨k0,tb,n2,C,n3,V,col,n5,E,n6,W,n7,m7,O⟩:St)=D)(w:ο)(hSp:SpT w)(hT:TL w a n T)(hS:SM w ⟨k0,tb,n2,C,n3,V,col,n5,E,n6,W,n7,m7,O⟩ ⟨a2,c2,a3,c3,a5,c5,a6,c6,a7,c7⟩)(hn:n<=1048576) :
 VK μ 10 #[χ #[σ a n c],χ #[ι κ k0,τ tb,σ a2 n2 c2,σ a3 n3 c3,τ col,σ a5 n5 c5,σ a6 n6 c6,σ a7 n7 c7]] w (Tz w (A8 n T D).1 (A8 n T D).2):=by
 by_cases hk:k0=5
 rotate_left
 ·
  have HA:Hid (A8 n T D=([],7)):=NT (VV (by rw [←hD];exact hk));have n5_:(k0 != 5)=true:=by simpa using hk
  have hbU:υ w.heap.size w ((w.alloc (γ #[σ a n c] 28)).alloc (γ #[ι κ k0,τ tb,σ a2 n2 c2,σ a3 n3 c3,τ col,σ a5 n5 c5,σ a6 n6 c6,σ a7 n7 c7] 34)):=AA (AD _ _) (AD _ _);clear hk;go_enter Tryz.func10,Tryz.ntmps10
  go_wp2;refine VE (VZ rfl _ _ _) rfl ?_;rw [HA.out];exact⟨_,_,rfl,λk hk=>absurd hk (Vc k),VV rfl,AA hbU (AD _ _)⟩
 subst hk;have hbU:υ w.heap.size w ((w.alloc (γ #[σ a n c] 28)).alloc (γ #[ι κ 5,τ tb,σ a2 n2 c2,σ a3 n3 c3,τ col,σ a5 n5 c5,σ a6 n6 c6,σ a7 n7 c7] 34)):=AA (AD _ _) (AD _ _);have hq0:((w.alloc (γ #[σ a n c] 28)).alloc (γ #[ι κ 5,τ tb,σ a2 n2 c2,σ a3 n3 c3,τ col,σ a5 n5 c5,σ a6 n6 c6,σ a7 n7 c7] 34)).heap[w.heap.size]?=ς (γ #[σ a n c] 28 (0,0)):=AC (η w _) (AD _ _);have hq1:((w.alloc (γ #[σ a n c] 28)).alloc (γ #[ι κ 5,τ tb,σ a2 n2 c2,σ a3 n3 c3,τ col,σ a5 n5 c5,σ a6 n6 c6,σ a7 n7 c7] 34)).heap[w.heap.size+1]?=ς (γ #[ι κ 5,τ tb,σ a2 n2 c2,σ a3 n3 c3,τ col,σ a5 n5 c5,σ a6 n6 c6,σ a7 n7 c7] 34 (0,0)):=by
  have q:=η (w.alloc (γ #[σ a n c] 28)) (γ #[ι κ 5,τ tb,σ a2 n2 c2,σ a3 n3 c3,τ col,σ a5 n5 c5,σ a6 n6 c6,σ a7 n7 c7] 34);rw [ω] at q;exact q
 obtain⟨p0,-⟩:=AG hq0;obtain⟨b0_,b1_,b2_,b3_,b4_,b5_,b6_,b7_⟩:=AJ hq1;have HDB:=Uw a n c T _ (hSp.later hbU) (hT.later hbU) hn;rcases hdb:A2 n T with _ | _
 ·
  have HA:Hid (A8 n T D=([],7)):=NT (Vb (VV hdb));rw [hdb] at HDB;clear hdb;go_enter Tryz.func10,Tryz.ntmps10
  go_wp2_with (go_at_call 27;refine HDB.mono ?_;rintro e w1 ⟨rfl,hb1⟩)
  refine VE (VZ rfl _ _ _) rfl ?_;rw [HA.out];exact⟨_,_,rfl,λk hk=>absurd hk (Vc k),VV rfl,AA hbU (AA hb1 (AD _ _))⟩
 rw [hdb] at HDB;have HDBK:Hid (A2 n T=true):=hdb;clear hdb;have HST:Hid (∀ W',υ w.heap.size w W'->VK μ 28 #[χ #[ι κ 5,τ tb,σ a2 n2 c2,σ a3 n3 c3,τ col,σ a5 n5 c5,σ a6 n6 c6,σ a7 n7 c7]] W' λe w'=>e=ρ (β (AK D))/\υ W'.heap.size W' w'):=λW' h=>QY tb n2 C n3 V col n5 E n6 W n7 m7 O a2 c2 a3 c3 a5 c5 a6 c6 a7 c7 D hD W' (hS.later h) (hSp.later h);rcases hst:AK D with _ | _
 ·
  have HA:Hid (A8 n T D=([],7)):=NT (Vb (Vb hst));have HST2:Hid (∀ W',υ w.heap.size w W'->VK μ 28 #[χ #[ι κ 5,τ tb,σ a2 n2 c2,σ a3 n3 c3,τ col,σ a5 n5 c5,σ a6 n6 c6,σ a7 n7 c7]] W' λe w'=>e=ρ (β false)/\υ W'.heap.size W' w'):=by rw [←hst];exact HST
  clear hst HST;go_enter Tryz.func10,Tryz.ntmps10
  go_wp2_with (first | (go_at_call 28;refine(HST2.out _ (AA hbU hb1)).mono ?_;rintro e w2 ⟨rfl,hb2⟩) | (go_at_call 27;refine HDB.mono ?_;rintro e w1 ⟨rfl,hb1⟩;obtain⟨b0,b1,b2,b3,b4,b5,b6,b7⟩:=AJ (AC hq1 hb1)))
  refine VE (VZ rfl _ _ _) rfl ?_;rw [HA.out];exact⟨_,_,rfl,λk hk=>absurd hk (Vc k),VV rfl,AA hbU (AA hb1 (AA hb2 (AD _ _)))⟩
 have HST2:Hid (∀ W',υ w.heap.size w W'->VK μ 28 #[χ #[ι κ 5,τ tb,σ a2 n2 c2,σ a3 n3 c3,τ col,σ a5 n5 c5,σ a6 n6 c6,σ a7 n7 c7]] W' λe w'=>e=ρ (β true)/\υ W'.heap.size W' w'):=by rw [←hst];exact HST
 have HSTK:Hid (AK D=true):=hst;clear HST hst;obtain⟨hA1,hA2⟩:=Qu (D:=D) (by rw [←hD]) HDBK.out HSTK.out;have HCE:Hid (∀ W',υ w.heap.size w W'->VK μ 33 #[χ #[σ a n c],χ #[ι κ 5,τ tb,σ a2 n2 c2,σ a3 n3 c3,τ col,σ a5 n5 c5,σ a6 n6 c6,σ a7 n7 c7]] W' λe w'=>e=ρ (θ #[ι κ (Kj n T D).1,ι κ (Kj n T D).2])/\υ W'.heap.size W' w'):=λW' h=>by
  have:=Mo a n c T tb a2 n2 c2 a3 n3 c3 col a5 n5 c5 a6 n6 c6 a7 n7 c7 C V E W m7 O W' (hT.later h) (hS.later h) hn HDBK.out (by rw [hD];exact HSTK.out);rw [hD] at this;exact this
 obtain⟨x,y,hxy⟩:∃ x y,Kj n T D=(x,y):=⟨_,_,rfl⟩;rw [hxy] at hA1 hA2 HCE;simp only at hA1 hA2 HCE
 clear hxy;by_cases hy:y=0
 rotate_left
 ·
  have HA:Hid (A8 n T D=([],y)):=hA1 hy;have ny:(y != 0)=true:=by simpa using hy
  clear hA1 hA2 hy;go_enter Tryz.func10,Tryz.ntmps10
  go_wp2_with (first | (go_at_call 33;refine(HCE.out _ (AA hbU (AA hb1 hb2))).mono ?_;rintro e w3 ⟨rfl,hb3⟩) | (go_at_call 28;refine(HST2.out _ (AA hbU hb1)).mono ?_;rintro e w2 ⟨rfl,hb2⟩;obtain⟨d0_,-⟩:=AG (AC (AC hq0 hb1) hb2);obtain⟨e0,e1,e2,e3,e4,e5,e6,e7⟩:=AJ (AC (AC hq1 hb1) hb2)) | (go_at_call 27;refine HDB.mono ?_;rintro e w1 ⟨rfl,hb1⟩;obtain⟨b0,b1,b2,b3,b4,b5,b6,b7⟩:=AJ (AC hq1 hb1)))
  refine VE (VZ rfl _ _ _) rfl ?_;rw [HA.out];exact⟨_,_,rfl,λk hk=>absurd hk (Vc k),VV rfl,AA hbU (AA hb1 (AA hb2 (AA hb3 (AD _ _))))⟩
 subst hy;obtain⟨j,hj,-,rfl,hA,hso,hcw⟩:=hA2 rfl;clear hA1;have hokj:=(Ax HDBK.out).2 j hj;have hdj:=Fb hokj;have hNj:=Bi hokj;have hGj:=Dt hokj;obtain⟨-,-,h7c,h7d⟩:=IS HSTK.out (by rw [←hD]);obtain⟨ds,dn,dC,dr,dm,dR,hTj⟩:∃ ds dn dC dr dm dR,T j=⟨ds,dn,dC,dr,dm,dR⟩:=⟨_,_,_,_,_,_,rfl⟩;have HTJ:Hid (T j=⟨ds,dn,dC,dr,dm,dR⟩):=hTj;rw [hTj] at hdj hNj hGj hA hso hcw;rw [←hD] at h7c h7d hA hso hcw;simp only at hdj hNj hGj hA hso hcw h7c h7d
 rw [hD] at hA;have HA:Hid (A8 n T D=H8 dC dn dR W n6 m7 O n7 dr):=hA;have HDJ:Hid (∀ k,k<dn->AR dC (dC k).s k=false):=hdj;have HWH:Hid (AI W n6=true/\CM dC dn W n6=0):=⟨h7d,hcw⟩;have HEX:Hid (∀ i,i<n7->AZ (O i) (m7 i)=true/\(ck dC dn (O i) (m7 i)).2=0):=λi hi=>⟨h7c i hi,FO (Km hso i hi)⟩;have HN:Hid (Nice dn dr dm dR):=hNj;have HG:Hid (∀ k,k<dr->Bc dn dC (dR k)):=hGj;have hn1:=hNj.n1;clear hTj hdj hNj hGj hA hso hcw h7c h7d hokj;have hjn:(j:Int)<n:=by omega
 have hj0:(0:Int)<=j:=by omega
 obtain⟨bt,offt,ac,cc,ar,cr,rfl,e0,e1,e2,hC,hR,-⟩:=hT j hj;rw [HTJ.out] at e0 e1 e2 hC hR;simp only at e0 e1 e2 hC hR
 go_enter Tryz.func10,Tryz.ntmps10
 go_upto_region 7 with (first | (go_at_call 33;refine(HCE.out _ (AA hbU (AA hb1 hb2'))).mono ?_;rintro e w2 ⟨rfl,hb2⟩;have t0:=AB (AA hbU (AA hb1 (AA hb2' hb2))) e0;have t1:=AB (AA hbU (AA hb1 (AA hb2' hb2))) e1;have t2:=AB (AA hbU (AA hb1 (AA hb2' hb2))) e2;obtain⟨g0_,-⟩:=AG (AC (AC (AC hq0 hb1) hb2') hb2)) | (go_at_call 28;refine(HST2.out _ (AA hbU hb1)).mono ?_;rintro e w2' ⟨rfl,hb2'⟩;obtain⟨d0_,-⟩:=AG (AC (AC hq0 hb1) hb2');obtain⟨f0,f1,f2,f3,f4,f5,f6,f7⟩:=AJ (AC (AC hq1 hb1) hb2')) | (go_at_call 27;refine HDB.mono ?_;rintro e w1 ⟨rfl,hb1⟩;obtain⟨b0,b1,b2,b3,b4,b5,b6,b7⟩:=AJ (AC hq1 hb1)))
 have hqT:(w2.alloc (γ #[τ ds,σ ac dn cc,σ ar dr cr] 67)).heap[w2.heap.size]?=ς (γ #[τ ds,σ ac dn cc,σ ar dr cr] 67 (0,0)):=η w2 _;have hbT:υ w2.heap.size w2 (w2.alloc (γ #[τ ds,σ ac dn cc,σ ar dr cr] 67)):=AD w2 _;have hb3:=AA hbU (AA hb1 (AA hb2' (AA hb2 hbT)));have r1:=AC (AC (AC (AC hq1 hb1) hb2') hb2) hbT;generalize (w2.alloc (γ #[τ ds,σ ac dn cc,σ ar dr cr] 67))=w3 at hqT hbT hb3 r1 ⊢;have hC3:=hC.later hb3;have hR3:=hR.later hb3;have hs3:=hb3.size;clear hbT;refine VH (S:=λx=>υ w3.heap.size w3 x) (by kernel_rfl) (CU _) (λjH=>?_);refine tk 0 jH ?_;refine tk 1 jH ?_ (hy:=λx jS=>by obtain⟨k0_,k1_,k2_,-⟩:=AL (AC hqT jS);obtain⟨j0_,j1_,j2_,j3_,j4_,j5_,j6_,j7_⟩:=AJ (AC r1 jS);go_simp<;>rfl)
 try simp only [zS]
 refine tk 3 jH ?_;try simp only [zS];refine tk 4 jH ?_ (hy:=λx jS=>by obtain⟨k0_,k1_,k2_,-⟩:=AL (AC hqT jS);obtain⟨j0_,j1_,j2_,j3_,j4_,j5_,j6_,j7_⟩:=AJ (AC r1 jS);go_simp<;>rfl)
 try simp only [zS]
 refine tk 5 jH ?_ (hy:=λx jS=>by obtain⟨k0_,k1_,k2_,-⟩:=AL (AC hqT jS);obtain⟨j0_,j1_,j2_,j3_,j4_,j5_,j6_,j7_⟩:=AJ (AC r1 jS);go_simp<;>rfl)
 try simp only [zS]
 refine rd 2 (λK hK=>?_);go_simp;refine(Ep ac dn cc dC _ (hC3.later jH) hn1).mono ?_;rintro e w4 ⟨rfl,hP4,hb4⟩;have hH4:=AA jH hb4;refine hK.out _ _ (hH4) (λjH=>?_);clear hK K;try simp only [zS]
 refine rd 6 (λK hK=>?_);go_simp;refine(Pw ac dn cc dC _ ar dr cr dm dR 5 tb a2 n2 c2 a3 n3 c3 col a5 n5 c5 a6 n6 c6 a7 n7 c7 W m7 O _ hP4 HDJ.out (hR3.later jH) (hS.wh.later (AA hb3 jH)) (hS.ou.later (AA hb3 jH)) HWH.out.1 HWH.out.2 HEX.out HN.out HG.out hS.l7).mono ?_;rintro e w5 ⟨a5_,c5_,rfl,hOD,hAp,hb5⟩;have hH5:=AA jH hb5;have hsH:=jH.size;refine hK.out _ _ (hH5) (λjH=>?_);clear hK K;try simp only [zS]
 refine tk 7 jH ?_;try simp only [zS];refine tk 8 jH ?_;try simp only [zS];refine tk 9 jH ?_;refine tk 10 jH ?_
 try simp only [zS]
 refine VP (by kernel_rfl) ?_ _;go_wp2;refine VE (VZ rfl _ _ _) rfl ?_;rw [HA.out];exact⟨_,_,rfl,hOD.wide (λb h=>by omega),hAp.later (VT _ _) (by omega),AA hb3 jH⟩
end Go.Proofs.YtoeencbghldmdaaGreatDoor
namespace Go.Proofs.YtoeencbghldmdaaGreatDoor
open Go.RowKit Go.Maps Go.WideMaps Go.Sort Go.Shelf
theorem Qp(m:Nat):AnyZI.SortsIn μ Tryz.sortedI_ren Fence.wide m:=
 ⟨λblk off cap ss W hH hblk hsz=>callsIn_wide.2 (AnyM.slices_Sort_int Tryz.sortI blk off cap ss W hH hblk hsz),
  λp cap W=>callsIn_wide.2 (AnyM.slices_Sort_int_none Tryz.sortI p cap W)⟩
theorem Pj(mb:Option Nat)(W:ο):VK μ 162 #[.map mb] W λe w'=>e=ρ (.func (.func 171) #[] #[ψ (ς ⟨W.heap.size,0,ν⟩)])/\w'=W.alloc (γ #[.map mb] 173):=
 (callsIn_wide (n:=5)).1 (AnyZI.keys_in Tryz.keysI Fence.wide 5 trivial rfl mb W)
theorem MU(Bm b nn:Nat)(D0:Dm)(w:ο)(hBm:Bm<w.heap.size)(hm:w.cell? ⟨Bm,0,ν⟩=ς (.map (ς b)))(hown:w.ownsMap μ 3 Bq b nn D0)(hmax:Maps.size D0<=1048576) :
 VK μ 161 #[.func (.func 171) #[] #[ψ (ς ⟨Bm,0,ν⟩)]] w λe w'=>∃ (v:VN) (ss:List (Int)),e=ρ v/\ss.Perm (intKeys D0) /\
  w'.ownsRow w.heap.size 3 1 v ss.length ((ss.mergeSort (λx y=>decide (x<=y))).map encZ)/\(v=σ ν 0 0↔ss=[])/\υ w.heap.size w w':=by
 refine(callsIn_wide (n:=5)).1 ?_;have hseq:SeqGives Fence.wide 2 μ 171 #[ψ (ς ⟨Bm,0,ν⟩)] encZ (λss=>ss.Perm (intKeys D0)) (Maps.size D0) w:=
  AnyZI.keys_gives (ρ:=Tryz.keysI_ren) { Tryz.keysI with } Fence.wide _ trivial rfl (by omega) Bm b nn D0 _ hBm hm hown
 exact AnyZI.sorted_in Tryz.sortedI Fence.wide 5 trivial trivial trivial trivial rfl (by omega) (Qp _) (enters_of Tryz.func170 (by kernel_rfl) rfl) 171 #[ψ (ς ⟨Bm,0,ν⟩)] trivial (enters_of Tryz.func171 (by kernel_rfl) rfl) _ _ (by unfold maxLen;omega) (by omega) _ hseq
theorem Qo(m:Nat):AnyZ.SortsIn μ Tryz.sortedS_ren Fence.wide m:=
 ⟨λblk off cap ss W hH hblk hsz=>callsIn_wide.2 (AnyM.slices_Sort_string Tryz.sortS blk off cap ss W hH hblk hsz),
  λp cap W=>callsIn_wide.2 (AnyM.slices_Sort_string_none Tryz.sortS p cap W)⟩
theorem Pi(mb:Option Nat)(W:ο):VK μ 164 #[.map mb] W λe w'=>e=ρ (.func (.func 174) #[] #[ψ (ς ⟨W.heap.size,0,ν⟩)])/\w'=W.alloc (γ #[.map mb] 180):=
 (callsIn_wide (n:=5)).1 (AnyZ.keys_in Tryz.keysS Fence.wide 5 trivial rfl mb W)
theorem MT(Bm b nn:Nat)(D0:Dm)(w:ο)(hBm:Bm<w.heap.size)(hm:w.cell? ⟨Bm,0,ν⟩=ς (.map (ς b)))(hown:w.ownsMap μ 9 Bq b nn D0)(hmax:Maps.size D0<=1048576) :
 VK μ 163 #[.func (.func 174) #[] #[ψ (ς ⟨Bm,0,ν⟩)]] w λe w'=>∃ (v:VN) (ss:List (List UInt8)),e=ρ v/\ss.Perm (strKeys D0) /\
  w'.ownsRow w.heap.size 9 1 v ss.length ((ss.mergeSort (λx y=>decide (x<=y))).map encStr)/\(v=σ ν 0 0↔ss=[])/\υ w.heap.size w w':=by
 refine(callsIn_wide (n:=5)).1 ?_;have hseq:SeqGives Fence.wide 2 μ 174 #[ψ (ς ⟨Bm,0,ν⟩)] encStr (λss=>ss.Perm (strKeys D0)) (Maps.size D0) w:=
  AnyZ.keys_gives (ρ:=Tryz.keysS_ren) { Tryz.keysS with } Fence.wide _ trivial rfl (by omega) Bm b nn D0 _ hBm hm hown
 exact AnyZ.sorted_in Tryz.sortedS Fence.wide 5 trivial trivial trivial trivial rfl (by omega) (Qo _) (enters_of Tryz.func173 (by kernel_rfl) rfl) 174 #[ψ (ς ⟨Bm,0,ν⟩)] trivial (enters_of Tryz.func174 (by kernel_rfl) rfl) _ _ (by unfold maxLen;omega) (by omega) _ hseq
end Go.Proofs.YtoeencbghldmdaaGreatDoor
namespace Go.Proofs.YtoeencbghldmdaaGreatDoor
open Go.RowKit Go.Maps Go.WideMaps
set_option maxRecDepth 20000
set_option maxHeartbeats 8000000
def DG(p q:Ro):Bool:=decide ((p.x.2 0).m<=(q.x.2 0).m)
def DF(p q:Ro):Bool:=decide ((p.x.2 0).s.data.toList<=(q.x.2 0).s.data.toList)
theorem Qr{D:Dm}{L:List Ro}(h:MpC D (Kh kI L)){ss:List Int}(hp:ss.Perm (intKeys D)):(L.mergeSort DG).map (λr=>(r.x.2 0).m)=ss.mergeSort (λx y=>decide (x<=y)):=by
 obtain⟨es,rfl,hpe,-⟩:=h;have h1:(intKeys (.map es:Dm)).Perm (L.map (λr=>(r.x.2 0).m)):=by
  have:=hpe.map (λp=>Go.intOf p.1);simpa [Kh,List.map_map,Function.comp_def,kI,Go.intOf,intKeys] using this
 have h2:=mergeSort_of_perm_i (hp.trans h1);have h3:((L.mergeSort DG).map (λr=>(r.x.2 0).m)).Perm (L.map (λr=>(r.x.2 0).m)):=(List.mergeSort_perm L DG).map _;have h4:=mergeSort_of_perm_i h3;rw [List.mergeSort_of_pairwise] at h4
 · rw [h4];exact h2.symm
 ·
  rw [List.pairwise_map];refine List.Pairwise.imp (R:=λa b=>DG a b=true) (λh=>h) (List.pairwise_mergeSort (λa b c h1 h2=>?_) (λa b=>?_) L)
  · simp only [DG,decide_eq_true_eq] at *;exact Int.le_trans h1 h2
  · simp only [DG,Bool.or_eq_true,decide_eq_true_eq];exact Int.le_total _ _
theorem Qq{D:Dm}{L:List Ro}(h:MpC D (Kh kS L)){ss:List (List UInt8)}(hp:ss.Perm (strKeys D)):(L.mergeSort DF).map (λr=>(r.x.2 0).s.data.toList)=ss.mergeSort (λx y=>decide (x<=y)):=by
 obtain⟨es,rfl,hpe,-⟩:=h;have h1:(strKeys (.map es:Dm)).Perm (L.map (λr=>(r.x.2 0).s.data.toList)):=by
  have:=hpe.map (λp=>strOf p.1);simpa [Kh,List.map_map,Function.comp_def,kS,strOf,strKeys] using this
 have h2:=mergeSort_of_perm (hp.trans h1);have h3:((L.mergeSort DF).map (λr=>(r.x.2 0).s.data.toList)).Perm (L.map (λr=>(r.x.2 0).s.data.toList)):=(List.mergeSort_perm L DF).map _;have h4:=mergeSort_of_perm h3;rw [List.mergeSort_of_pairwise] at h4
 · rw [h4];exact h2.symm
 ·
  rw [List.pairwise_map];refine List.Pairwise.imp (R:=λa b=>DF a b=true) (λh=>h) (List.pairwise_mergeSort (λa b c h1 h2=>?_) (λa b=>?_) L)
  · simp only [DF,decide_eq_true_eq] at *;exact List.le_trans h1 h2
  · simp only [DF,Bool.or_eq_true,decide_eq_true_eq];exact List.le_total _ _
theorem NN{S:List Ro}{k:Nat}(h:k<S.length):((S.take (k+1)).map Ro.v)=(S.take k).map Ro.v ++ [(S.getD k o0).v]:=by
 rw [List.take_succ_eq_append_getElem h,List.map_append];have e:S.getD k o0=S[k]:=by simp [h]
 rw [e];rfl
theorem G7{P:Program}(w:ο){ops:Array Oper}{rest:List Oper}{o:Oper}{a:Act}{Q:Exit->Act->ο->Prop}(hg:o.guard=ν)(m x:Operand)(t:TypeId)(hop:o.op=Op.lookup t m x false)
 (k e:TypeId) (K:Keyed P k) (ht:P.underlying t=ς (.map k e)) {z:VN} (hz:(zeroValue e).run P w=.ok z w) (zd:Dm) (zp:List MemPlace) (hzd:Bq z=ς (zd,zp)) (b n:Nat) (D:Dm)
 (hm:a.eval m=.map (ς b)) (hown:w.ownsMap P k Bq b n D) (key:VN) (kl:Lit) (hx:a.eval x=key) (hkey:keyOf P k key=ς kl) (r:Ro) (hr:D.atKey kl zd=r.d)
 (hK:wpList P ops Q rest (a.put o.dst (.slice (ς ⟨r.b,0,ν⟩) r.x.1 r.c)) w):wpList P ops Q (o :: rest) a w:=by
 refine wpList_plain hg λK' hK'=>?_;obtain⟨v,ps,hrun,hv⟩:=hown.lookup K ht hz hzd hkey;rw [hr] at hv;obtain rfl:=Nc hv;unfold Oper.wp;simp [execOp,hop,hm,hx,hrun,Result.andThen]
 exact hK' _ _ hK
theorem Qd{w w':ο}{a:Addr}{v:VN}{r:Option Nat}(h:w.cell? a=ς v)(hg:w.grownBy w' r)(hne:ς a.block≠r):w'.cell? a=ς v:=(World.cell?_of_block (hg.block _ (World.block_lt_of_cell? w _ h) hne)).trans h
theorem Jo{w:ο}{G e n:Nat}{v:VN}{xs:List VN}(h:w.ownsRow G e 1 v n xs):∃ a c,v=σ a n c/\∀ j,j<n->∃ g,a=ς ⟨g,0,ν⟩/\g<w.heap.size/\G<=g/\w.cell? ⟨g,j,ν⟩=xs[j]?:=by
 rcases CX h with ⟨rfl,rfl⟩ | ⟨g,cap,rfl⟩
 · exact⟨ν,0,rfl,λj hj=>by omega⟩
 · exact⟨_,cap,rfl,λj hj=>⟨g,rfl,(h.lt g rfl).2,(h.lt g rfl).1,h.cellAt j (by omega)⟩⟩
theorem RW{S:List Ro}{j:Nat}(h:j<S.length):((S.map (λr=>(r.x.2 0).m)).map encZ)[j]?=ς (ι κ ((S.getD j o0).x.2 0).m):=by
 simp [h,encZ]
theorem RU{S:List Ro}{j:Nat}(h:j<S.length):((S.map (λr=>(r.x.2 0).s.data.toList)).map encStr)[j]?=ς (τ ((S.getD j o0).x.2 0).s):=by
 simp [h,encStr]
theorem Mi{D:Dm}{L:List Ro}(h:MpC D (Kh kI L)){ss:List Int}(hp:ss.Perm (intKeys D)):ss.length=L.length:=by
 obtain⟨es,rfl,hpe,-⟩:=h;rw [hp.length_eq];show (es.map _).length=_
 rw [List.length_map,hpe.length_eq,EM]
theorem Mh{D:Dm}{L:List Ro}(h:MpC D (Kh kS L)){ss:List (List UInt8)}(hp:ss.Perm (strKeys D)):ss.length=L.length:=by
 obtain⟨es,rfl,hpe,-⟩:=h;rw [hp.length_eq];show (es.map _).length=_
 rw [List.length_map,hpe.length_eq,EM]
theorem JF(mb:Nat)(L:List Ro)(w:ο)(hM:KM 3 kI w mb L)(hn:L.length<=1048576)(hK:∀ r∈L,keyOf μ 3 (ι κ (r.x.2 0).m)=ς (kI r.x)) :
 VK μ 141 #[χ #[.map (ς mb),.func (.func 100) #[] #[]]] w λe w'=>∃ g c,e=ρ (σ (ς ⟨g,0,ν⟩) L.length c)/\w'.ownsRow w.heap.size 30 1 (σ (ς ⟨g,0,ν⟩) L.length c) L.length ((L.mergeSort DG).map Ro.v)/\υ w.heap.size w w':=by
 have hml:=hM.lt;obtain⟨D,hD,hMC⟩:=hM;have hsz:Maps.size D=L.length:=by rw [hMC.size,EM]
 obtain⟨jr,hir,hzr0,hzr1,hzr2⟩:=info_parts Tryz.infoRow;have HIr:Hid (Tryz.prog.info? 30=ς jr):=hir;clear hir;have hmk:∀ w:ο,(Instr.makeSlice 43 (ι κ 0) (ι κ (L.length:Int))).run μ w=.ok (σ (ς ⟨w.heap.size,0,ν⟩) 0 L.length) (w.alloc (γ (madeCells #[σ ν 0 0] L.length) 30)):=λw=>by
  have q:=Fi (t:=43) Tryz.underlying43 Tryz.infoRow L.length hn (by omega) w;rw [Nat.mul_one] at q;exact q
 have hb1:=AD w (γ #[.map (ς mb),.func (.func 100) #[] #[]] 175);have hq1:=η w (γ #[.map (ς mb),.func (.func 100) #[] #[]] 175);have hs1:(w.alloc (γ #[.map (ς mb),.func (.func 100) #[] #[]] 175)).heap.size=w.heap.size+1:=ω _ _;have hb2:=AD (w.alloc (γ #[.map (ς mb),.func (.func 100) #[] #[]] 175)) (γ (madeCells #[σ ν 0 0] L.length) 30);have hs2:((w.alloc (γ #[.map (ς mb),.func (.func 100) #[] #[]] 175)).alloc (γ (madeCells #[σ ν 0 0] L.length) 30)).heap.size=w.heap.size+1+1:=by rw [ω,hs1]
 have hO0:((w.alloc (γ #[.map (ς mb),.func (.func 100) #[] #[]] 175)).alloc (γ (madeCells #[σ ν 0 0] L.length) 30)).ownsRow (w.heap.size+1) 30 1 (σ (ς ⟨w.heap.size+1,0,ν⟩) 0 L.length) 0 []:=by
  have q:=VU (base:=w.heap.size+1) (e:=30) (size:=1) (w.alloc (γ #[.map (ς mb),.func (.func 100) #[] #[]] 175)) (madeCells #[σ ν 0 0] L.length) L.length (by rw [hs1];exact VD _) (by unfold maxLen;omega) (by rw [Nat.mul_one];exact CH _ _);rw [hs1] at q;exact q
 obtain⟨m0,m1⟩:=Ag (AC hq1 hb2);obtain⟨n0_,n1_⟩:=Ag hq1;have hb12:=AA hb1 hb2;have hq3:=η ((w.alloc (γ #[.map (ς mb),.func (.func 100) #[] #[]] 175)).alloc (γ (madeCells #[σ ν 0 0] L.length) 30)) (γ #[.map (ς mb)] 173);rw [hs2] at hq3;have hSO:=MU (w.heap.size+1+1) mb _ D (((w.alloc (γ #[.map (ς mb),.func (.func 100) #[] #[]] 175)).alloc (γ (madeCells #[σ ν 0 0] L.length) 30)).alloc (γ #[.map (ς mb)] 173)) (by rw [ω,hs2];omega) (AG hq3).1 ((hD.alloc _).alloc _ |>.alloc _) (by omega);go_enter Tryz.func141,Tryz.ntmps141
 go_wp2_with (first | (at_len;refine wpList_len_own _ rfl _ 173 rfl 3 30 Tryz.underlying173 Bq mb _ D rfl (hD.alloc _) ?_;rw [hsz]) | (go_at_call 162;refine(Pj _ _).mono ?_;rintro e w3 ⟨rfl,rfl⟩) | (go_at_call 161;refine hSO.mono ?_;rintro e w4 ⟨vk,ss,rfl,hpm,hkr,hnil,hb4⟩;rw [Mi hMC hpm,←Qr hMC hpm] at hkr;obtain⟨ak,ck,rfl,hkc⟩:=Jo hkr;clear hnil hkr) | go_in)
 clear hmk hSO hq3;have hb3:=AD ((w.alloc (γ #[.map (ς mb),.func (.func 100) #[] #[]] 175)).alloc (γ (madeCells #[σ ν 0 0] L.length) 30)) (γ #[.map (ς mb)] 173);have hs3:(((w.alloc (γ #[.map (ς mb),.func (.func 100) #[] #[]] 175)).alloc (γ (madeCells #[σ ν 0 0] L.length) 30)).alloc (γ #[.map (ς mb)] 173)).heap.size=w.heap.size+3:=by rw [ω,hs2]
 have hb24:=AA hb3 hb4;have hs4:=hb4.size;rw [hs3] at hs4;have hq4:=AC (AC hq1 hb2) hb24;have hO4:=AF hO0 hb24;have hb04:=AA hb12 hb24;have hSl:(L.mergeSort DG).length=L.length:=List.length_mergeSort L;have hkc4:∀ j,j<L.length->∃ g,ak=ς ⟨g,0,ν⟩/\w.heap.size+1<g/\w4.cell? ⟨g,j,ν⟩=ς (ι κ (((L.mergeSort DG).getD j o0).x.2 0).m):=λj hj=>by
  obtain⟨g,e1,-,h1,h2⟩:=hkc j hj;rw [hs3] at h1;exact⟨g,e1,by omega,h2.trans (RW (by rw [hSl];exact hj))⟩
 have hSm:∀ j,j<L.length->(L.mergeSort DG).getD j o0∈L:=λj hj=>(List.mergeSort_perm L DG).mem_iff.1 (Ae (by rw [hSl];exact hj));clear hkc hO0 m0 m1 n0_ n1_ hb1 hb2 hb3 hb12 hq1 hs1 hs2 hs3 hb24 hb4 hpm ss;obtain⟨S,hS⟩:∃ S,L.mergeSort DG=S:=⟨_,rfl⟩;have HS:Hid (L.mergeSort DG=S):=hS;rw [hS] at hSl hkc4 hSm;clear hS;go_loopw [3,5,15] (λv _ i wr=>∃ (k g cap:Nat),k<=L.length/\i=ι κ k/\v=σ (ς ⟨g,0,ν⟩) k cap/\wr.ownsRow (w.heap.size+1) 30 1 (σ (ς ⟨g,0,ν⟩) k cap) k ((S.take k).map Ro.v)/\(∀ j,j<L.length->∃ g2,ak=ς ⟨g2,0,ν⟩/\g2≠g/\wr.cell? ⟨g2,j,ν⟩=ς (ι κ ((S.getD j o0).x.2 0).m))/\wr.heap[w.heap.size]?=ς (γ #[.map (ς mb),.func (.func 100) #[] #[]] 175 (0,0))/\υ w.heap.size w wr/\w.heap.size+1<wr.heap.size) (λ_ _ i _=>L.length - (VQ i).toNat)
 case atStart=>exact⟨0,w.heap.size+1,L.length,by omega,rfl,rfl,hO4,λj hj=>by obtain⟨g,e1,e2,e3⟩:=hkc4 j hj;exact⟨g,e1,by omega,e3⟩,hq4,hb04,by omega⟩
 case round=>
  obtain⟨k,g,cap,hk,rfl,rfl,hO,hkc,hrow,hb,hsr⟩:=hrel;have hgl:=hO.lt g rfl;obtain⟨m0,m1⟩:=Ag hrow;have HR:Hid (wr.heap[w.heap.size]?=ς (γ #[.map (ς mb),.func (.func 100) #[] #[]] 175 (0,0))):=hrow;have HKC:Hid (∀ j,j<L.length->∃ g2,ak=ς ⟨g2,0,ν⟩/\g2≠g/\wr.cell? ⟨g2,j,ν⟩=ς (ι κ ((S.getD j o0).x.2 0).m)):=hkc;clear hrow hkc;by_cases hlt:k<L.length
  ·
   obtain⟨g2,e2_,hne2,d0⟩:=HKC.out k hlt;have hm:=hSm k hlt;have hkey:=hK _ hm;have hat:=hMC.at (p:=(kI (S.getD k o0).x,(S.getD k o0).d)) (List.mem_map_of_mem (f:=λr:Ro=>(kI r.x,r.d)) hm) (Lv _) .nil;dsimp only at hat
   have HT:Hid ((S.take (k+1)).map Ro.v=(S.take k).map Ro.v ++ [(S.getD k o0).v]):=NN (by rw [hSl];exact hlt);generalize S.getD k o0=R at d0 hm hkey hat HT;have HAT:Hid (D.atKey (kI R.x) .nil=R.d):=hat;clear hat;have hDr:wr.ownsMap μ 3 Bq mb L.length D:=by
    obtain⟨es,clock,hx,Ft,hs,hDD⟩:=hD;exact⟨es,clock,(hb.block mb hml).trans hx,Ft,hs,hDD⟩
   have e2':=e2_;subst e2';go_wp2_with (first | (at_lookup;refine G7 _ rfl _ _ 173 rfl 3 30 N5 Tryz.underlying173 (IF _) .nil [] Ds mb _ D rfl hDr _ _ rfl hkey R HAT.out ?_) | (at_builtin;refine VR _ rfl _ _ _ rfl (w.heap.size+1) 30 jr (σ ν 0 0) 1 24 Tryz.underlying43 HIr.out hzr0 hzr1 hzr2 rfl (by omega) (σ (ς ⟨g,0,ν⟩) k cap) k ((S.take k).map Ro.v) rfl (AF hO (AD _ _)) ⟨wr.heap.size,0,ν⟩ 1 1 [σ (ς ⟨R.b,0,ν⟩) R.x.1 R.c] rfl rfl (VI (η wr _)) (Bt _ rfl) (by omega) (by unfold maxLen;omega) (by omega) (by simp;omega) _ rfl ?_;intro g8 cap8 w8 hO8 hgr8 hat8 hlt8) | go_in)
   have hw1:=AD wr (γ #[σ (ς ⟨R.b,0,ν⟩) R.x.1 R.c] 30);have hne:∀ b,b≠g->ς b≠(σ (ς ⟨g,0,ν⟩) k cap).ownBlock:=λb hb e=>hb (VF e);have hs8:=hgr8.size;rw [ω] at hs8;go_roundw
   case rel=>exact⟨k+1,g8,cap8,by omega,by go_num,rfl,by rw [HT.out];exact hO8,λj hj=>by
    obtain⟨g3,e3,hne3,d3⟩:=HKC.out j hj;have hl3:=World.block_lt_of_cell? _ _ d3;refine⟨g3,e3,?_,Qd (AB hw1 d3) hgr8 (hne g3 hne3)⟩;rcases hat8 with e | e
    · have:g=g8:=VF e;omega
    ·
     rw [ω] at e;dsimp only at hl3
     omega,Bl (AC HR.out hw1) hgr8 (hne _ (by omega)),JI (AA hb hw1) hgr8 (λy hy=>hne _ (by omega)),by omega⟩
   case measure=>simp [VQ];omega
  ·
   obtain rfl:k=L.length:=by omega
   rw [List.take_of_length_le (by omega)] at hO;go_wp2;go_ret
   rw [HS.out];exact⟨g,cap,rfl,ownsRow_base_a hO (Nat.le_succ _),hb⟩
theorem JE(mb:Nat)(L:List Ro)(w:ο)(hM:KM 9 kS w mb L)(hn:L.length<=1048576)(hK:∀ r∈L,keyOf μ 9 (τ (r.x.2 0).s)=ς (kS r.x)) :
 VK μ 146 #[χ #[.map (ς mb),.func (.func 102) #[] #[]]] w λe w'=>∃ g c,e=ρ (σ (ς ⟨g,0,ν⟩) L.length c)/\w'.ownsRow w.heap.size 30 1 (σ (ς ⟨g,0,ν⟩) L.length c) L.length ((L.mergeSort DF).map Ro.v)/\υ w.heap.size w w':=by
 have hml:=hM.lt;obtain⟨D,hD,hMC⟩:=hM;have hsz:Maps.size D=L.length:=by rw [hMC.size,EM]
 obtain⟨jr,hir,hzr0,hzr1,hzr2⟩:=info_parts Tryz.infoRow;have HIr:Hid (Tryz.prog.info? 30=ς jr):=hir;clear hir;have hmk:∀ w:ο,(Instr.makeSlice 43 (ι κ 0) (ι κ (L.length:Int))).run μ w=.ok (σ (ς ⟨w.heap.size,0,ν⟩) 0 L.length) (w.alloc (γ (madeCells #[σ ν 0 0] L.length) 30)):=λw=>by
  have q:=Fi (t:=43) Tryz.underlying43 Tryz.infoRow L.length hn (by omega) w;rw [Nat.mul_one] at q;exact q
 have hb1:=AD w (γ #[.map (ς mb),.func (.func 102) #[] #[]] 182);have hq1:=η w (γ #[.map (ς mb),.func (.func 102) #[] #[]] 182);have hs1:(w.alloc (γ #[.map (ς mb),.func (.func 102) #[] #[]] 182)).heap.size=w.heap.size+1:=ω _ _;have hb2:=AD (w.alloc (γ #[.map (ς mb),.func (.func 102) #[] #[]] 182)) (γ (madeCells #[σ ν 0 0] L.length) 30);have hs2:((w.alloc (γ #[.map (ς mb),.func (.func 102) #[] #[]] 182)).alloc (γ (madeCells #[σ ν 0 0] L.length) 30)).heap.size=w.heap.size+1+1:=by rw [ω,hs1]
 have hO0:((w.alloc (γ #[.map (ς mb),.func (.func 102) #[] #[]] 182)).alloc (γ (madeCells #[σ ν 0 0] L.length) 30)).ownsRow (w.heap.size+1) 30 1 (σ (ς ⟨w.heap.size+1,0,ν⟩) 0 L.length) 0 []:=by
  have q:=VU (base:=w.heap.size+1) (e:=30) (size:=1) (w.alloc (γ #[.map (ς mb),.func (.func 102) #[] #[]] 182)) (madeCells #[σ ν 0 0] L.length) L.length (by rw [hs1];exact VD _) (by unfold maxLen;omega) (by rw [Nat.mul_one];exact CH _ _);rw [hs1] at q;exact q
 obtain⟨m0,m1⟩:=Ag (AC hq1 hb2);obtain⟨n0_,n1_⟩:=Ag hq1;have hb12:=AA hb1 hb2;have hq3:=η ((w.alloc (γ #[.map (ς mb),.func (.func 102) #[] #[]] 182)).alloc (γ (madeCells #[σ ν 0 0] L.length) 30)) (γ #[.map (ς mb)] 180);rw [hs2] at hq3;have hSO:=MT (w.heap.size+1+1) mb _ D (((w.alloc (γ #[.map (ς mb),.func (.func 102) #[] #[]] 182)).alloc (γ (madeCells #[σ ν 0 0] L.length) 30)).alloc (γ #[.map (ς mb)] 180)) (by rw [ω,hs2];omega) (AG hq3).1 ((hD.alloc _).alloc _ |>.alloc _) (by omega);go_enter Tryz.func146,Tryz.ntmps146
 go_wp2_with (first | (at_len;refine wpList_len_own _ rfl _ 180 rfl 9 30 Tryz.underlying180 Bq mb _ D rfl (hD.alloc _) ?_;rw [hsz]) | (go_at_call 164;refine(Pi _ _).mono ?_;rintro e w3 ⟨rfl,rfl⟩) | (go_at_call 163;refine hSO.mono ?_;rintro e w4 ⟨vk,ss,rfl,hpm,hkr,hnil,hb4⟩;rw [Mh hMC hpm,←Qq hMC hpm] at hkr;obtain⟨ak,ck,rfl,hkc⟩:=Jo hkr;clear hnil hkr) | go_in)
 clear hmk hSO hq3;have hb3:=AD ((w.alloc (γ #[.map (ς mb),.func (.func 102) #[] #[]] 182)).alloc (γ (madeCells #[σ ν 0 0] L.length) 30)) (γ #[.map (ς mb)] 180);have hs3:(((w.alloc (γ #[.map (ς mb),.func (.func 102) #[] #[]] 182)).alloc (γ (madeCells #[σ ν 0 0] L.length) 30)).alloc (γ #[.map (ς mb)] 180)).heap.size=w.heap.size+3:=by rw [ω,hs2]
 have hb24:=AA hb3 hb4;have hs4:=hb4.size;rw [hs3] at hs4;have hq4:=AC (AC hq1 hb2) hb24;have hO4:=AF hO0 hb24;have hb04:=AA hb12 hb24;have hSl:(L.mergeSort DF).length=L.length:=List.length_mergeSort L;have hkc4:∀ j,j<L.length->∃ g,ak=ς ⟨g,0,ν⟩/\w.heap.size+1<g/\w4.cell? ⟨g,j,ν⟩=ς (τ (((L.mergeSort DF).getD j o0).x.2 0).s):=λj hj=>by
  obtain⟨g,e1,-,h1,h2⟩:=hkc j hj;rw [hs3] at h1;exact⟨g,e1,by omega,h2.trans (RU (by rw [hSl];exact hj))⟩
 have hSm:∀ j,j<L.length->(L.mergeSort DF).getD j o0∈L:=λj hj=>(List.mergeSort_perm L DF).mem_iff.1 (Ae (by rw [hSl];exact hj));clear hkc hO0 m0 m1 n0_ n1_ hb1 hb2 hb3 hb12 hq1 hs1 hs2 hs3 hb24 hb4 hpm ss;obtain⟨S,hS⟩:∃ S,L.mergeSort DF=S:=⟨_,rfl⟩;have HS:Hid (L.mergeSort DF=S):=hS;rw [hS] at hSl hkc4 hSm;clear hS;go_loopw [3,5,15] (λv _ i wr=>∃ (k g cap:Nat),k<=L.length/\i=ι κ k/\v=σ (ς ⟨g,0,ν⟩) k cap/\wr.ownsRow (w.heap.size+1) 30 1 (σ (ς ⟨g,0,ν⟩) k cap) k ((S.take k).map Ro.v)/\(∀ j,j<L.length->∃ g2,ak=ς ⟨g2,0,ν⟩/\g2≠g/\wr.cell? ⟨g2,j,ν⟩=ς (τ ((S.getD j o0).x.2 0).s))/\wr.heap[w.heap.size]?=ς (γ #[.map (ς mb),.func (.func 102) #[] #[]] 182 (0,0))/\υ w.heap.size w wr/\w.heap.size+1<wr.heap.size) (λ_ _ i _=>L.length - (VQ i).toNat)
 case atStart=>exact⟨0,w.heap.size+1,L.length,by omega,rfl,rfl,hO4,λj hj=>by obtain⟨g,e1,e2,e3⟩:=hkc4 j hj;exact⟨g,e1,by omega,e3⟩,hq4,hb04,by omega⟩
 case round=>
  obtain⟨k,g,cap,hk,rfl,rfl,hO,hkc,hrow,hb,hsr⟩:=hrel;have hgl:=hO.lt g rfl;obtain⟨m0,m1⟩:=Ag hrow;have HR:Hid (wr.heap[w.heap.size]?=ς (γ #[.map (ς mb),.func (.func 102) #[] #[]] 182 (0,0))):=hrow;have HKC:Hid (∀ j,j<L.length->∃ g2,ak=ς ⟨g2,0,ν⟩/\g2≠g/\wr.cell? ⟨g2,j,ν⟩=ς (τ ((S.getD j o0).x.2 0).s)):=hkc;clear hrow hkc;by_cases hlt:k<L.length
  ·
   obtain⟨g2,e2_,hne2,d0⟩:=HKC.out k hlt;have hm:=hSm k hlt;have hkey:=hK _ hm;have hat:=hMC.at (p:=(kS (S.getD k o0).x,(S.getD k o0).d)) (List.mem_map_of_mem (f:=λr:Ro=>(kS r.x,r.d)) hm) (Lu _) .nil;dsimp only at hat
   have HT:Hid ((S.take (k+1)).map Ro.v=(S.take k).map Ro.v ++ [(S.getD k o0).v]):=NN (by rw [hSl];exact hlt);generalize S.getD k o0=R at d0 hm hkey hat HT;have HAT:Hid (D.atKey (kS R.x) .nil=R.d):=hat;clear hat;have hDr:wr.ownsMap μ 9 Bq mb L.length D:=by
    obtain⟨es,clock,hx,Ft,hs,hDD⟩:=hD;exact⟨es,clock,(hb.block mb hml).trans hx,Ft,hs,hDD⟩
   have e2':=e2_;subst e2';go_wp2_with (first | (at_lookup;refine G7 _ rfl _ _ 180 rfl 9 30 Fk Tryz.underlying180 (IF _) .nil [] Ds mb _ D rfl hDr _ _ rfl hkey R HAT.out ?_) | (at_builtin;refine VR _ rfl _ _ _ rfl (w.heap.size+1) 30 jr (σ ν 0 0) 1 24 Tryz.underlying43 HIr.out hzr0 hzr1 hzr2 rfl (by omega) (σ (ς ⟨g,0,ν⟩) k cap) k ((S.take k).map Ro.v) rfl (AF hO (AD _ _)) ⟨wr.heap.size,0,ν⟩ 1 1 [σ (ς ⟨R.b,0,ν⟩) R.x.1 R.c] rfl rfl (VI (η wr _)) (Bt _ rfl) (by omega) (by unfold maxLen;omega) (by omega) (by simp;omega) _ rfl ?_;intro g8 cap8 w8 hO8 hgr8 hat8 hlt8) | go_in)
   have hw1:=AD wr (γ #[σ (ς ⟨R.b,0,ν⟩) R.x.1 R.c] 30);have hne:∀ b,b≠g->ς b≠(σ (ς ⟨g,0,ν⟩) k cap).ownBlock:=λb hb e=>hb (VF e);have hs8:=hgr8.size;rw [ω] at hs8;go_roundw
   case rel=>exact⟨k+1,g8,cap8,by omega,by go_num,rfl,by rw [HT.out];exact hO8,λj hj=>by
    obtain⟨g3,e3,hne3,d3⟩:=HKC.out j hj;have hl3:=World.block_lt_of_cell? _ _ d3;refine⟨g3,e3,?_,Qd (AB hw1 d3) hgr8 (hne g3 hne3)⟩;rcases hat8 with e | e
    · have:g=g8:=VF e;omega
    ·
     rw [ω] at e;dsimp only at hl3
     omega,Bl (AC HR.out hw1) hgr8 (hne _ (by omega)),JI (AA hb hw1) hgr8 (λy hy=>hne _ (by omega)),by omega⟩
   case measure=>simp [VQ];omega
  ·
   obtain rfl:k=L.length:=by omega
   rw [List.take_of_length_le (by omega)] at hO;go_wp2;go_ret
   rw [HS.out];exact⟨g,cap,rfl,ownsRow_base_a hO (Nat.le_succ _),hb⟩
set_option maxHeartbeats 4000000
theorem EO(a:Option Addr)(n c:Nat)(I:Nat->Itm)(w:ο)(h:IL w a n I)(h0:0<n)(hn:n<=1048576) :
 VK μ 73 #[σ a n c] w λe w'=>∃ g cap,e=ρ (σ (ς ⟨g,0,ν⟩) n cap)/\w'.ownsRow w.heap.size 60 3 (σ (ς ⟨g,0,ν⟩) n cap) n (BU (λk=>v3 (I k)) n)/\υ w.heap.size w w':=by
 obtain⟨ad,rfl⟩:∃ ad,a=ς ad:=by
  obtain⟨b,off,e,-⟩:=h 0 h0;exact⟨_,e⟩
 obtain⟨j3,hi3,hz30,hz31,hz32⟩:=info_parts Tryz.infoVal;have HI3:Hid (Tryz.prog.info? 60=ς j3):=hi3;clear hi3;have hO0:(w.alloc (γ #[] 60)).ownsRow w.heap.size 60 3 (σ (ς ⟨w.heap.size,0,ν⟩) 0 0) 0 []:=VU w #[] 0 (VD _) (by unfold maxLen;omega) rfl;have hb1:=AD w (γ #[] 60);have HNW:Hid (∀ q u,(BU (λk=>v3 (I k)) n)[q]?=ς u->(w.alloc (γ #[] 60)).cell? (ad.add q)=ς u):=(h.later hb1).news;have hl:(BU (λk=>v3 (I k)) n).length=n * 3:=CD (λ_ _=>rfl);have HON:Hid (∀ u∈BU (λk=>v3 (I k)) n,u.oneCell'=true):=Cx (λk _ u hu=>by simp [v3] at hu;rcases hu with rfl | rfl | rfl <;> rfl);generalize BU (λk=>v3 (I k)) n=xs at HNW hl HON ⊢;have heq:(binOp .eql 30 (σ (ς ad) n c) (σ ν 0 0)).run μ w=.ok (β false) w:=by kernel_rfl
 go_enter Tryz.func73,Tryz.ntmps73
 go_wp2_with (at_builtin;refine VR _ rfl _ _ _ rfl w.heap.size 60 j3 (χ #[ι κ 0,ι κ 0,τ VG]) 3 32 Tryz.underlying30 HI3.out hz30 hz31 hz32 rfl (by omega) (σ (ς ⟨w.heap.size,0,ν⟩) 0 0) 0 [] rfl hO0 ad n c xs rfl hl HNW.out HON.out h0 (by unfold maxLen;omega) (by omega) (by simp) _ rfl ?_;intro g8 cap8 w8 hO8 hgr8 hat8 hlt8;rw [VM,Vd] at hO8;rw [VM])
 go_ret
 exact⟨g8,cap8,rfl,hO8,gB hb1 (r:=w.heap.size) hgr8 (VD _)⟩
theorem JH(a:Option Addr)(n c:Nat)(C:Nat->Clm)(w:ο)(h:CL w a n C)(h0:0<n)(hn:n<=1048576) :
 VK μ 74 #[σ a n c] w λe w'=>∃ g cap,e=ρ (σ (ς ⟨g,0,ν⟩) n cap)/\w'.ownsRow w.heap.size 58 2 (σ (ς ⟨g,0,ν⟩) n cap) n (BU (λk=>c2 (C k)) n)/\υ w.heap.size w w':=by
 obtain⟨ad,rfl⟩:∃ ad,a=ς ad:=by
  obtain⟨b,off,e,-⟩:=h 0 h0;exact⟨_,e⟩
 obtain⟨j3,hi3,hz30,hz31,hz32⟩:=info_parts Tryz.infoCol;have HI3:Hid (Tryz.prog.info? 58=ς j3):=hi3;clear hi3;have hO0:(w.alloc (γ #[] 58)).ownsRow w.heap.size 58 2 (σ (ς ⟨w.heap.size,0,ν⟩) 0 0) 0 []:=VU w #[] 0 (VD _) (by unfold maxLen;omega) rfl;have hb1:=AD w (γ #[] 58);have HNW:Hid (∀ q u,(BU (λk=>c2 (C k)) n)[q]?=ς u->(w.alloc (γ #[] 58)).cell? (ad.add q)=ς u):=(h.later hb1).news;have hl:(BU (λk=>c2 (C k)) n).length=n * 2:=CD (λ_ _=>rfl);have HON:Hid (∀ u∈BU (λk=>c2 (C k)) n,u.oneCell'=true):=Cx (λk _ u hu=>by simp [c2] at hu;rcases hu with rfl | rfl <;> rfl);generalize BU (λk=>c2 (C k)) n=xs at HNW hl HON ⊢;have heq:(binOp .eql 29 (σ (ς ad) n c) (σ ν 0 0)).run μ w=.ok (β false) w:=by kernel_rfl
 go_enter Tryz.func74,Tryz.ntmps74
 go_wp2_with (at_builtin;refine VR _ rfl _ _ _ rfl w.heap.size 58 j3 (χ #[τ VG,ι κ 0]) 2 24 Tryz.underlying29 HI3.out hz30 hz31 hz32 rfl (by omega) (σ (ς ⟨w.heap.size,0,ν⟩) 0 0) 0 [] rfl hO0 ad n c xs rfl hl HNW.out HON.out h0 (by unfold maxLen;omega) (by omega) (by simp) _ rfl ?_;intro g8 cap8 w8 hO8 hgr8 hat8 hlt8;rw [VM,Vd] at hO8;rw [VM])
 go_ret
 exact⟨g8,cap8,rfl,hO8,gB hb1 (r:=w.heap.size) hgr8 (VD _)⟩
set_option maxHeartbeats 8000000
def BlkC(w w':ο):Prop:=w.heap.size<=w'.heap.size/\∀ (b:Nat) cur t f,w.heap[b]?=ς (Obj.cells cur t f)->w'.heap[b]?=ς (Obj.cells cur t f)
theorem BlkC.below{w w':ο}(h:υ w.heap.size w w'):BlkC w w':=⟨h.size,λ_ _ _ _ hb=>AC hb h⟩
theorem BlkC.trans{a b c:ο}(h:BlkC a b)(k:BlkC b c):BlkC a c:=⟨VX h.1 k.1,λx cur t f hb=>k.2 x cur t f (h.2 x cur t f hb)⟩
theorem BlkC.km{K:TypeId}{key:Rw->Lit}{w w':ο}{mb:Nat}{L:List Ro}(h:KM K key w mb L)(hg:w.grownBy w' (ς mb)):BlkC w w':=by
 obtain⟨D,⟨es,cl,hb,-⟩,-⟩:=h;refine⟨hg.size,λb cur t f hc=>Bl hc hg ?_⟩;intro e;have e2:b=mb:=VF e;rw [e2,hb] at hc;cases hc
def RoAt(w:ο)(r:Ro):Prop:=(∃ cur,w.heap[r.b]?=ς (γ cur 60 (0,0))/\r.x.1 * 3<=cur.size)/\IL w (ς ⟨r.b,0,ν⟩) r.x.1 r.x.2
theorem RoAt.all{w w':ο}{r:Ro}(h:RoAt w r)(k:BlkC w w'):RoAt w' r:=by
 obtain⟨⟨cur,h1,h2⟩,h3⟩:=h;refine⟨⟨cur,k.2 _ _ _ _ h1,h2⟩,λj hj=>?_⟩;obtain⟨b,off,e,c0,c1,c2,hs⟩:=h3 j hj;injection e with e;injection e with e1 e2 e3;subst e1 e2;have hb:w'.heap[r.b]?=w.heap[r.b]?:=(k.2 _ _ _ _ h1).trans h1.symm;exact⟨r.b,0,rfl,(World.cell?_of_block hb).trans c0,(World.cell?_of_block hb).trans c1,(World.cell?_of_block hb).trans c2,hs⟩
theorem RoAt.own{w:ο}{G g cap n:Nat}{V:Nat->Itm}(h:w.ownsRow G 60 3 (σ (ς ⟨g,0,ν⟩) n cap) n (BU (λk=>v3 (V k)) n))(hs:∀ k,k<n->(V k).s.size<=1048576):RoAt w ⟨g,cap,(n,V)⟩:=by
 refine⟨?_,EK h hs⟩;obtain⟨-,h | ⟨g',cap',cur,e,-,h1,h2,-,h3,-⟩⟩:=h
 · cases h.1
 · injection e with e1 e2 e3;injection e1 with e1;injection e1 with e1;subst e1 e3;exact⟨cur,h1,by rw [h3];exact Nat.mul_le_mul_right 3 h2⟩
theorem IL.sz{w:ο}{a:Option Addr}{n:Nat}{I:Nat->Itm}(h:IL w a n I){k:Nat}(hk:k<n):(I k).s.size<=1048576:=by
 obtain⟨b,off,-,-,-,-,hs⟩:=h k hk;exact hs
theorem GW{w w':ο}(h:υ w.heap.size w w')(r:Option Nat):w.grownBy w' r:=⟨h.os,h.tape,h.output,h.size,λk hk _=>h.block k hk⟩
theorem RS.one{w:ο}{b:Nat}{r:Ro}{t:TypeId}(h:w.heap[b]?=ς (γ #[σ (ς ⟨r.b,0,ν⟩) r.x.1 r.c] t (0,0))):RS w (ς ⟨b,0,ν⟩) [r]:=λk hk=>by
 obtain rfl:k=0:=by simpa using hk
 exact⟨b,0,rfl,(AG h).1⟩
theorem RL.one{w:ο}{r:Ro}(h:RoAt w r)(h0:0<r.x.1):RL w [r]:=λq hq=>by
 rw [List.mem_singleton] at hq;subst hq;exact⟨h.2,h0⟩
def InA(K:TypeId)(key:Rw->Lit)(mb:Nat)(x:Rw)(L:List Ro)(w:ο)(e:Ending)(w':ο):Prop:=∃ g cap,w.heap.size<=g/\e=.returned (.int .i64 (if Cq key L (key x)=true then 5 else if L.length=1000 then 6 else 0))/\KM K key w' mb (if Cq key L (key x)=true then L else L ++ [⟨g,cap,x⟩])/\RoAt w' ⟨g,cap,x⟩/\w.grownBy w' (ς mb)
theorem E9(key:Rw->Lit)(L:List Ro)(r:Ro):As key L [r]=if Cq key L (key r.x)=true then (false,L) else (true,L ++ [r]):=by
 unfold As;split <;> rfl
theorem TR(mb:Nat)(a:Option Addr)(n c:Nat)(V:Nat->Itm)(L:List Ro)(w:ο)(hM:KM 3 kI w mb L)(hV:IL w a n V)(h0:0<n)(hn:n<=1048576)(hLn:L.length<=1000)(hK0:keyOf μ 3 (ι κ (V 0).m)=ς (kI (n,V))) :
 VK μ 138 #[χ #[.map (ς mb),.func (.func 100) #[] #[]],σ a n c] w (InA 3 kI mb (n,V) L w):=by
 have hbU:=AD w (γ #[.map (ς mb),.func (.func 100) #[] #[]] 175);have hq:=η w (γ #[.map (ς mb),.func (.func 100) #[] #[]] 175);have hml:=hM.lt;have hVs:∀ k,k<n->(V k).s.size<=1048576:=λk hk=>hV.sz hk;rcases hh:Cq kI L (kI (n,V))
 ·
  go_enter Tryz.func138,Tryz.ntmps138
  go_wp2;refine VH (S:=λx=>x.heap[w.heap.size]?=ς (γ #[.map (ς mb),.func (.func 100) #[] #[]] 175 (0,0))) (by kernel_rfl) (hq) (λjH=>?_);have hbv:υ w.heap.size w (w.alloc (γ #[.map (ς mb),.func (.func 100) #[] #[]] 175)).drew:=AA hbU (Ar _);have hM1:KM 3 kI (w.alloc (γ #[.map (ς mb),.func (.func 100) #[] #[]] 175)).drew mb L:=hM.later hbv;generalize (w.alloc (γ #[.map (ς mb),.func (.func 100) #[] #[]] 175)).drew=v at jH hbv hM1 ⊢;refine tk 0 jH ?_ (hy:=λx jS=>by obtain⟨m0_,m1_⟩:=Ag jS;go_simp<;>rfl)
  try simp only [zS]
  refine tk 1 jH ?_
  try simp only [zS]
  refine rd 2 (λK hK=>?_);go_simp;refine(EO a n c V v (hV.later hbv) h0 hn).mono ?_;rintro e v1 ⟨g,cap,rfl,hOg,hb1⟩;have hgl:=hOg.lt g rfl;have hsw:=hbv.size;refine hK.out _ _ (AC jH hb1) (λjH=>?_);clear hK K;try simp only [zS]
  replace hbv:=AA hbv hb1;replace hM1:=hM1.later hb1;have hsv:=hb1.size;have hRo:=RoAt.own hOg hVs;clear hOg;refine rd 3 (λK hK=>?_);have hqN:=η v1 (γ #[σ (ς ⟨g,0,ν⟩) n cap] 30);have hbN:=AD v1 (γ #[σ (ς ⟨g,0,ν⟩) n cap] 30);go_simp;refine hK.out _ _ (AC jH hbN) (λjH=>?_);clear hK K;try simp only [zS]
  replace hbv:=AA hbv hbN;replace hM1:=hM1.later hbN;replace hRo:=hRo.all (BlkC.below hbN);generalize v1.heap.size=BN at hqN ⊢;generalize v1.alloc (γ #[σ (ς ⟨g,0,ν⟩) n cap] 30)=v2 at hqN jH hbv hM1 hbN hRo ⊢;refine rd 4 (λK hK=>?_);have hAD:=GR mb (ς ⟨BN,0,ν⟩) 1 L [⟨g,cap,(n,V)⟩] v2 hM1 (RS.one hqN) (RL.one hRo h0) (by simp;omega) (λr hr=>by rw [List.mem_singleton] at hr;subst hr;exact hK0);rw [E9] at hAD;dsimp only at hAD
  rw [hh] at hAD;simp only [Bool.false_eq_true,if_false,List.length_singleton] at hAD
  go_simp;refine hAD.mono ?_;rintro e v3 ⟨rfl,hM3,hg3⟩;refine hK.out _ _ (A9 jH hg3 (by omega)) (λjH=>?_);clear hK K hAD;try simp only [zS]
  replace hRo:=hRo.all (BlkC.km hM1 hg3);refine tk 5 jH ?_
  try simp only [zS]
  refine VP (by kernel_rfl) ?_ _;have HG:Hid (w.grownBy v3 (ς mb)):=(GW hbv _).trans hg3;have HRo:Hid (RoAt v3 ⟨g,cap,(n,V)⟩):=hRo;obtain⟨D,hD,hMC⟩:=hM3;obtain⟨m0_,m1_⟩:=Ag jH;have hsz:Maps.size D=L.length+1:=by rw [hMC.size,EM];simp
  clear hRo hg3;by_cases hL1:L.length=1000
  ·
   have hgt:(1000:Int)<(L.length:Int)+1:=by omega
   go_wp2_with (first | (at_len;refine wpList_len_own _ rfl _ 173 rfl 3 30 Tryz.underlying173 Bq mb _ D rfl hD ?_;rw [hsz]) | go_in)
   go_ret
   exact⟨g,cap,by omega,by rw [hh];simp [hL1],by rw [hh];exact⟨D,hD,hMC⟩,HRo.out,HG.out⟩
  ·
   have hgt:¬(1000:Int)<(L.length:Int)+1:=by omega
   go_wp2_with (first | (at_len;refine wpList_len_own _ rfl _ 173 rfl 3 30 Tryz.underlying173 Bq mb _ D rfl hD ?_;rw [hsz]) | go_in)
   go_ret
   exact⟨g,cap,by omega,by rw [hh];simp [hL1],by rw [hh];exact⟨D,hD,hMC⟩,HRo.out,HG.out⟩
 ·
  go_enter Tryz.func138,Tryz.ntmps138
  go_wp2;refine VH (S:=λx=>x.heap[w.heap.size]?=ς (γ #[.map (ς mb),.func (.func 100) #[] #[]] 175 (0,0))) (by kernel_rfl) (hq) (λjH=>?_);have hbv:υ w.heap.size w (w.alloc (γ #[.map (ς mb),.func (.func 100) #[] #[]] 175)).drew:=AA hbU (Ar _);have hM1:KM 3 kI (w.alloc (γ #[.map (ς mb),.func (.func 100) #[] #[]] 175)).drew mb L:=hM.later hbv;generalize (w.alloc (γ #[.map (ς mb),.func (.func 100) #[] #[]] 175)).drew=v at jH hbv hM1 ⊢;refine tk 0 jH ?_ (hy:=λx jS=>by obtain⟨m0_,m1_⟩:=Ag jS;go_simp<;>rfl)
  try simp only [zS]
  refine tk 1 jH ?_
  try simp only [zS]
  refine rd 2 (λK hK=>?_);go_simp;refine(EO a n c V v (hV.later hbv) h0 hn).mono ?_;rintro e v1 ⟨g,cap,rfl,hOg,hb1⟩;have hgl:=hOg.lt g rfl;have hsw:=hbv.size;refine hK.out _ _ (AC jH hb1) (λjH=>?_);clear hK K;try simp only [zS]
  replace hbv:=AA hbv hb1;replace hM1:=hM1.later hb1;have hsv:=hb1.size;have hRo:=RoAt.own hOg hVs;clear hOg;refine rd 3 (λK hK=>?_);have hqN:=η v1 (γ #[σ (ς ⟨g,0,ν⟩) n cap] 30);have hbN:=AD v1 (γ #[σ (ς ⟨g,0,ν⟩) n cap] 30);go_simp;refine hK.out _ _ (AC jH hbN) (λjH=>?_);clear hK K;try simp only [zS]
  replace hbv:=AA hbv hbN;replace hM1:=hM1.later hbN;replace hRo:=hRo.all (BlkC.below hbN);generalize v1.heap.size=BN at hqN ⊢;generalize v1.alloc (γ #[σ (ς ⟨g,0,ν⟩) n cap] 30)=v2 at hqN jH hbv hM1 hbN hRo ⊢;refine rd 4 (λK hK=>?_);have hAD:=GR mb (ς ⟨BN,0,ν⟩) 1 L [⟨g,cap,(n,V)⟩] v2 hM1 (RS.one hqN) (RL.one hRo h0) (by simp;omega) (λr hr=>by rw [List.mem_singleton] at hr;subst hr;exact hK0);rw [E9] at hAD;dsimp only at hAD
  rw [hh] at hAD;simp only [if_true,List.length_singleton] at hAD
  go_simp;refine hAD.mono ?_;rintro e v3 ⟨rfl,hM3,hg3⟩;refine hK.out _ _ (A9 jH hg3 (by omega)) (λjH=>?_);clear hK K hAD;try simp only [zS]
  replace hRo:=hRo.all (BlkC.km hM1 hg3);refine tk 5 jH ?_
  try simp only [zS]
  refine VP (by kernel_rfl) ?_ _;have HG:Hid (w.grownBy v3 (ς mb)):=(GW hbv _).trans hg3;have HRo:Hid (RoAt v3 ⟨g,cap,(n,V)⟩):=hRo;clear hRo hg3;go_wp2;go_ret
  exact⟨g,cap,by omega,by rw [hh];rfl,by rw [hh];exact hM3,HRo.out,HG.out⟩
theorem TQ(mb:Nat)(a:Option Addr)(n c:Nat)(V:Nat->Itm)(L:List Ro)(w:ο)(hM:KM 9 kS w mb L)(hV:IL w a n V)(h0:0<n)(hn:n<=1048576)(hLn:L.length<=1000)(hK0:keyOf μ 9 (τ (V 0).s)=ς (kS (n,V))) :
 VK μ 143 #[χ #[.map (ς mb),.func (.func 102) #[] #[]],σ a n c] w (InA 9 kS mb (n,V) L w):=by
 have hbU:=AD w (γ #[.map (ς mb),.func (.func 102) #[] #[]] 182);have hq:=η w (γ #[.map (ς mb),.func (.func 102) #[] #[]] 182);have hml:=hM.lt;have hVs:∀ k,k<n->(V k).s.size<=1048576:=λk hk=>hV.sz hk;rcases hh:Cq kS L (kS (n,V))
 ·
  go_enter Tryz.func143,Tryz.ntmps143
  go_wp2;refine VH (S:=λx=>x.heap[w.heap.size]?=ς (γ #[.map (ς mb),.func (.func 102) #[] #[]] 182 (0,0))) (by kernel_rfl) (hq) (λjH=>?_);have hbv:υ w.heap.size w (w.alloc (γ #[.map (ς mb),.func (.func 102) #[] #[]] 182)).drew:=AA hbU (Ar _);have hM1:KM 9 kS (w.alloc (γ #[.map (ς mb),.func (.func 102) #[] #[]] 182)).drew mb L:=hM.later hbv;generalize (w.alloc (γ #[.map (ς mb),.func (.func 102) #[] #[]] 182)).drew=v at jH hbv hM1 ⊢;refine tk 0 jH ?_ (hy:=λx jS=>by obtain⟨m0_,m1_⟩:=Ag jS;go_simp<;>rfl)
  try simp only [zS]
  refine tk 1 jH ?_
  try simp only [zS]
  refine rd 2 (λK hK=>?_);go_simp;refine(EO a n c V v (hV.later hbv) h0 hn).mono ?_;rintro e v1 ⟨g,cap,rfl,hOg,hb1⟩;have hgl:=hOg.lt g rfl;have hsw:=hbv.size;refine hK.out _ _ (AC jH hb1) (λjH=>?_);clear hK K;try simp only [zS]
  replace hbv:=AA hbv hb1;replace hM1:=hM1.later hb1;have hsv:=hb1.size;have hRo:=RoAt.own hOg hVs;clear hOg;refine rd 3 (λK hK=>?_);have hqN:=η v1 (γ #[σ (ς ⟨g,0,ν⟩) n cap] 30);have hbN:=AD v1 (γ #[σ (ς ⟨g,0,ν⟩) n cap] 30);go_simp;refine hK.out _ _ (AC jH hbN) (λjH=>?_);clear hK K;try simp only [zS]
  replace hbv:=AA hbv hbN;replace hM1:=hM1.later hbN;replace hRo:=hRo.all (BlkC.below hbN);generalize v1.heap.size=BN at hqN ⊢;generalize v1.alloc (γ #[σ (ς ⟨g,0,ν⟩) n cap] 30)=v2 at hqN jH hbv hM1 hbN hRo ⊢;refine rd 4 (λK hK=>?_);have hAD:=GQ mb (ς ⟨BN,0,ν⟩) 1 L [⟨g,cap,(n,V)⟩] v2 hM1 (RS.one hqN) (RL.one hRo h0) (by simp;omega) (λr hr=>by rw [List.mem_singleton] at hr;subst hr;exact hK0);rw [E9] at hAD;dsimp only at hAD
  rw [hh] at hAD;simp only [Bool.false_eq_true,if_false,List.length_singleton] at hAD
  go_simp;refine hAD.mono ?_;rintro e v3 ⟨rfl,hM3,hg3⟩;refine hK.out _ _ (A9 jH hg3 (by omega)) (λjH=>?_);clear hK K hAD;try simp only [zS]
  replace hRo:=hRo.all (BlkC.km hM1 hg3);refine tk 5 jH ?_
  try simp only [zS]
  refine VP (by kernel_rfl) ?_ _;have HG:Hid (w.grownBy v3 (ς mb)):=(GW hbv _).trans hg3;have HRo:Hid (RoAt v3 ⟨g,cap,(n,V)⟩):=hRo;obtain⟨D,hD,hMC⟩:=hM3;obtain⟨m0_,m1_⟩:=Ag jH;have hsz:Maps.size D=L.length+1:=by rw [hMC.size,EM];simp
  clear hRo hg3;by_cases hL1:L.length=1000
  ·
   have hgt:(1000:Int)<(L.length:Int)+1:=by omega
   go_wp2_with (first | (at_len;refine wpList_len_own _ rfl _ 180 rfl 9 30 Tryz.underlying180 Bq mb _ D rfl hD ?_;rw [hsz]) | go_in)
   go_ret
   exact⟨g,cap,by omega,by rw [hh];simp [hL1],by rw [hh];exact⟨D,hD,hMC⟩,HRo.out,HG.out⟩
  ·
   have hgt:¬(1000:Int)<(L.length:Int)+1:=by omega
   go_wp2_with (first | (at_len;refine wpList_len_own _ rfl _ 180 rfl 9 30 Tryz.underlying180 Bq mb _ D rfl hD ?_;rw [hsz]) | go_in)
   go_ret
   exact⟨g,cap,by omega,by rw [hh];simp [hL1],by rw [hh];exact⟨D,hD,hMC⟩,HRo.out,HG.out⟩
 ·
  go_enter Tryz.func143,Tryz.ntmps143
  go_wp2;refine VH (S:=λx=>x.heap[w.heap.size]?=ς (γ #[.map (ς mb),.func (.func 102) #[] #[]] 182 (0,0))) (by kernel_rfl) (hq) (λjH=>?_);have hbv:υ w.heap.size w (w.alloc (γ #[.map (ς mb),.func (.func 102) #[] #[]] 182)).drew:=AA hbU (Ar _);have hM1:KM 9 kS (w.alloc (γ #[.map (ς mb),.func (.func 102) #[] #[]] 182)).drew mb L:=hM.later hbv;generalize (w.alloc (γ #[.map (ς mb),.func (.func 102) #[] #[]] 182)).drew=v at jH hbv hM1 ⊢;refine tk 0 jH ?_ (hy:=λx jS=>by obtain⟨m0_,m1_⟩:=Ag jS;go_simp<;>rfl)
  try simp only [zS]
  refine tk 1 jH ?_
  try simp only [zS]
  refine rd 2 (λK hK=>?_);go_simp;refine(EO a n c V v (hV.later hbv) h0 hn).mono ?_;rintro e v1 ⟨g,cap,rfl,hOg,hb1⟩;have hgl:=hOg.lt g rfl;have hsw:=hbv.size;refine hK.out _ _ (AC jH hb1) (λjH=>?_);clear hK K;try simp only [zS]
  replace hbv:=AA hbv hb1;replace hM1:=hM1.later hb1;have hsv:=hb1.size;have hRo:=RoAt.own hOg hVs;clear hOg;refine rd 3 (λK hK=>?_);have hqN:=η v1 (γ #[σ (ς ⟨g,0,ν⟩) n cap] 30);have hbN:=AD v1 (γ #[σ (ς ⟨g,0,ν⟩) n cap] 30);go_simp;refine hK.out _ _ (AC jH hbN) (λjH=>?_);clear hK K;try simp only [zS]
  replace hbv:=AA hbv hbN;replace hM1:=hM1.later hbN;replace hRo:=hRo.all (BlkC.below hbN);generalize v1.heap.size=BN at hqN ⊢;generalize v1.alloc (γ #[σ (ς ⟨g,0,ν⟩) n cap] 30)=v2 at hqN jH hbv hM1 hbN hRo ⊢;refine rd 4 (λK hK=>?_);have hAD:=GQ mb (ς ⟨BN,0,ν⟩) 1 L [⟨g,cap,(n,V)⟩] v2 hM1 (RS.one hqN) (RL.one hRo h0) (by simp;omega) (λr hr=>by rw [List.mem_singleton] at hr;subst hr;exact hK0);rw [E9] at hAD;dsimp only at hAD
  rw [hh] at hAD;simp only [if_true,List.length_singleton] at hAD
  go_simp;refine hAD.mono ?_;rintro e v3 ⟨rfl,hM3,hg3⟩;refine hK.out _ _ (A9 jH hg3 (by omega)) (λjH=>?_);clear hK K hAD;try simp only [zS]
  replace hRo:=hRo.all (BlkC.km hM1 hg3);refine tk 5 jH ?_
  try simp only [zS]
  refine VP (by kernel_rfl) ?_ _;have HG:Hid (w.grownBy v3 (ς mb)):=(GW hbv _).trans hg3;have HRo:Hid (RoAt v3 ⟨g,cap,(n,V)⟩):=hRo;clear hRo hg3;go_wp2;go_ret
  exact⟨g,cap,by omega,by rw [hh];rfl,by rw [hh];exact hM3,HRo.out,HG.out⟩
