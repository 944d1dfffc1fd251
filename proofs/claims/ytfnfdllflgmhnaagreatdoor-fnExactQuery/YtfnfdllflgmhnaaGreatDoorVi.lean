import Derived.Test.YtfnfdllflgmhnaaGreatDoorVh
open ByteArray renaming empty → XN
open Go renaming Calls → XR, World → ο, bodyPost_ret → XL, heap_alloc_new → η, wpAnyH_done → XW, wp_region_held_drew → XO
open Go.Ending renaming returned → ρ
open Go.Ground renaming data → φ, phase → ξ
open Go.IntKind renaming i64 → κ
open Go.Obj renaming cells → γ
open Go.Operand renaming tmp → δ
open Go.Proofs.Tryz renaming prog → μ
open Go.RowKit renaming Below → υ, intOf → XX
open Go.Value renaming agg → χ, int → ι, pointer → ψ, slice → σ, string → τ, tuple → θ
open Go.World renaming news_of_block → XP, ownsRow_made → Xb, size_alloc → ω, size_setCell → Xl
open List renaming length_take → Xf
open Nat renaming le_refl → XK, le_trans → Xe
open Option renaming none → ν, some → ς
open Option.some renaming inj → XM
open Or renaming inr → Xi
namespace Go.Proofs.YtfnfdllflgmhnaaGreatDoor
open Go.RowKit Go.Maps Go.WideMaps
set_option maxRecDepth 20000
set_option maxHeartbeats 16000000
abbrev Ue:Oper:=⟨ς 28,.move (δ 1),234,"l5_replay.go:245",#[],ν⟩
abbrev Ud:Oper:=⟨ς 29,.load 135 (δ 9),135,"l5_replay.go:245",#[],ν⟩
abbrev Uc:Oper:=⟨ς 30,.move (δ 7),60,"l5_replay.go:245",#[],ν⟩
abbrev Ub:Oper:=⟨ς 31,.move (δ 10),3,"l5_replay.go:245",#[],ν⟩
abbrev Ua:Oper:=⟨ς 32,.slice 60 (δ 30) (ς (δ 31)) ν ν,60,"l5_replay.go:245",#[⟨2,φ⟩,⟨3,φ⟩],ν⟩
abbrev Ot:Oper:=⟨ς 33,.call ⟨.value (δ 28),#[δ 29,δ 32],#[135,60]⟩,231,"l5_replay.go:245",#[⟨0,φ⟩,⟨1,φ⟩,⟨4,φ⟩],ν⟩
abbrev Oq:Oper:=⟨ς 11,.alloc 94,0,"l5_replay.go:245",#[],ν⟩
abbrev Oo:Oper:=⟨ς 27,.move (δ 33),231,"l5_replay.go:245",#[⟨5,φ⟩],ν⟩
abbrev On:Oper:=⟨ς 34,.extract (δ 27) 0,94,"l5_replay.go:245",#[⟨6,φ⟩],ν⟩
abbrev Om:Oper:=⟨ς 35,.extract (δ 27) 1,3,"l5_replay.go:245",#[⟨6,φ⟩,⟨10,.gcOnly .lateStores⟩],ν⟩
abbrev Jj:Oper:=⟨ν,.store 94 (δ 11) (δ 34),0,"l5_replay.go:245",#[⟨9,φ⟩,⟨7,φ⟩,⟨5,.chain⟩,⟨0,ξ⟩,⟨1,ξ⟩,⟨2,ξ⟩,⟨3,ξ⟩,⟨4,ξ⟩,⟨5,ξ⟩,⟨6,ξ⟩,⟨7,ξ⟩,⟨8,.textOnly .lateStores⟩,⟨9,ξ⟩],ν⟩
abbrev Ji:Oper:=⟨ς 12,.assign (δ 35),3,"l5_replay.go:245",#[⟨8,φ⟩,⟨10,.chain⟩,⟨0,ξ⟩,⟨1,ξ⟩,⟨2,ξ⟩,⟨3,ξ⟩,⟨4,ξ⟩,⟨5,ξ⟩,⟨6,ξ⟩,⟨7,ξ⟩,⟨8,ξ⟩,⟨9,ξ⟩,⟨10,ξ⟩],ν⟩
abbrev Jh:Oper:=⟨ς 41,.move (δ 7),60,"l5_replay.go:250",#[],ν⟩
abbrev Jg:Oper:=⟨ς 42,.move (δ 10),3,"l5_replay.go:250",#[],ν⟩
abbrev Jf:Oper:=⟨ς 43,.slice 60 (δ 41) ν (ς (δ 42)) ν,60,"l5_replay.go:250",#[⟨0,φ⟩,⟨1,φ⟩],ν⟩
abbrev Je:Oper:=⟨ς 44,.load 94 (δ 11),94,"l5_replay.go:250",#[],ν⟩
abbrev Jd:Oper:=⟨ς 45,.buildSlice 60 1 #[(0,δ 44)],60,"l5_replay.go:250",#[⟨3,φ⟩],ν⟩
abbrev Jc:Oper:=⟨ς 46,.call ⟨.builtin .append,#[δ 43,δ 45],#[60,60]⟩,60,"l5_replay.go:250",#[⟨2,φ⟩,⟨4,φ⟩],ν⟩
abbrev Jb:Oper:=⟨ς 7,.assign (δ 46),60,"l5_replay.go:250",#[⟨5,φ⟩,⟨5,.chain⟩,⟨0,ξ⟩,⟨1,ξ⟩,⟨2,ξ⟩,⟨3,ξ⟩,⟨4,ξ⟩,⟨5,ξ⟩],ν⟩
theorem Dy{w:ο}{base g cap j:Nat}{L:List Itm}(h:Sv w base g cap L)(hj:j<=L.length):w.ownsRow base 94 3 (σ (ς ⟨g,0,ν⟩) j cap) j (A5 (L.take j)):=by
 obtain⟨hl,hh⟩:=h;refine⟨by rw [BG,Xf];omega,?_⟩;rcases hh with ⟨hh,_⟩ | ⟨gg,cap',cur,e1,e2,e3,e4,e5,e6,e7⟩
 · simp at hh
 ·
  simp only [Value.slice.injEq,Option.some.injEq,Addr.mk.injEq,and_true,true_and] at e1
  obtain⟨rfl,rfl⟩:=e1;refine Xi ⟨g,cap,cur,rfl,e2,e3,by omega,e5,e6,?_⟩;obtain⟨r,hr⟩:=GT L j;have h1:(A5 L).take (j * 3)=A5 (L.take j):=by
   rw [←hr,List.take_append_of_le_length (by rw [BG,Xf];omega),List.take_of_length_le (by rw [BG,Xf];omega)]
  rw [←h1,←e7,List.take_take,Nat.min_eq_left (by omega)]
theorem Wl{L:List Itm}(h:L.length=1):∃ x,L=[x]:=List.length_eq_one_iff.1 h
theorem DY(L:List Itm)(j q:Nat):(L.drop j).getD q d0=L.getD (j+q) d0:=by simp
theorem Sv.ilA{w:ο}{base g cap:Nat}{L:List Itm}(h:Sv w base g cap L)(hs:Cp L<=1048576)(j:Nat):IL w (ς ⟨g,j * 3,ν⟩) (L.length - j) (λi=>(L.drop j).getD i d0):=λk hk=>by
 have:=h.il hs j k hk;simpa [DY] using this
theorem TD(n:Nat)(C:Nat->Clm)(mb:Nat)(ar:Option Addr)(cr:Nat)(R:Nat->Itm)(p5 p3:Nat)(a:Option Addr)(m c:Nat)(I:Nat->Itm)(w:ο)(hP:PlAt w mb n C)(hdp:∀ k,k<n->Ah C (C k).s k=false)(hR:IL w ar n R)(h5:w.cell? ⟨p5,0,ν⟩=ς (σ ar n cr))(h31:w.cell? ⟨p3,1,ν⟩=ς (.map (ς mb)))(hI:IL w a m I)(hm:m<=100)(hx:ex I m=ς 1)(hk0:(ck C n I m).2=0)(hz:∀ j,j<n->(R j).s.size<=200)(hgR:∀ j,j<n->CU (R j)/\(R j).o=(C j).t) :
 XR μ 165 #[σ a m c,.func (.func 166) #[] #[ψ (ς ⟨p5,0,ν⟩),ψ (ς ⟨p3,0,ν⟩)]] w λe w'=>e=ρ (θ #[χ #[ι κ (Cn C n R I m).o,ι κ (Cn C n R I m).m,τ (Cn C n R I m).s],ι κ 0])/\υ w.heap.size w w':=by
 have HX:Hid (ex I m=ς 1):=hx;have HK0:Hid ((ck C n I m).2=0):=hk0;have HSZ:Hid (∀ k,k<=m->Cp (vl C n R I k)<=200 * k):=Iy hz hx;have HTY:Hid (∀ k,k<=m->QM (vl C n R I k) (ck C n I k).1):=Tn hgR hx hk0;have HDP:Hid (∀ k,k<n->Ah C (C k).s k=false):=hdp;clear hx hk0 hz hgR hdp;obtain⟨j3,hi3,hz30,hz31,hz32⟩:=info_parts Tryz.infoVal;have HI3:Hid (Tryz.prog.info? 94=ς j3):=hi3;clear hi3;have hsU:((w.alloc (γ #[ι κ 0,ι κ 0,τ ⟨#[]⟩] 94)).alloc (γ #[ι κ 0,ι κ 0,τ ⟨#[]⟩] 94)).heap.size=w.heap.size+2:=by rw [ω,ω]
 have hmk:=IW Tryz.underlying60 Tryz.infoVal m (by omega) (by omega) ((w.alloc (γ #[ι κ 0,ι κ 0,τ ⟨#[]⟩] 94)).alloc (γ #[ι κ 0,ι κ 0,τ ⟨#[]⟩] 94));have hO0:Sv (((w.alloc (γ #[ι κ 0,ι κ 0,τ ⟨#[]⟩] 94)).alloc (γ #[ι κ 0,ι κ 0,τ ⟨#[]⟩] 94)).alloc (γ (madeCells (χ #[ι κ 0,ι κ 0,τ XN]).cells (m * 3)) 94)) (w.heap.size+2) ((w.alloc (γ #[ι κ 0,ι κ 0,τ ⟨#[]⟩] 94)).alloc (γ #[ι κ 0,ι κ 0,τ ⟨#[]⟩] 94)).heap.size m []:=Xb ((w.alloc (γ #[ι κ 0,ι κ 0,τ ⟨#[]⟩] 94)).alloc (γ #[ι κ 0,ι κ 0,τ ⟨#[]⟩] 94)) _ m (by rw [hsU];exact XK _) (by unfold maxLen;omega) (Bv _ _);rw [hsU] at hO0;have hb0:υ w.heap.size w (((w.alloc (γ #[ι κ 0,ι κ 0,τ ⟨#[]⟩] 94)).alloc (γ #[ι κ 0,ι κ 0,τ ⟨#[]⟩] 94)).alloc (γ (madeCells (χ #[ι κ 0,ι κ 0,τ XN]).cells (m * 3)) 94)):=AA (AA (AE _ _) (AE _ _)) (AE _ _);have hq0:(((w.alloc (γ #[ι κ 0,ι κ 0,τ ⟨#[]⟩] 94)).alloc (γ #[ι κ 0,ι κ 0,τ ⟨#[]⟩] 94)).alloc (γ (madeCells (χ #[ι κ 0,ι κ 0,τ XN]).cells (m * 3)) 94)).heap[w.heap.size]?=ς (γ #[ι κ 0,ι κ 0,τ ⟨#[]⟩] 94 (0,0)):=AC (AC (η w _) (AE _ _)) (AE _ _);have hq1:(((w.alloc (γ #[ι κ 0,ι κ 0,τ ⟨#[]⟩] 94)).alloc (γ #[ι κ 0,ι κ 0,τ ⟨#[]⟩] 94)).alloc (γ (madeCells (χ #[ι κ 0,ι κ 0,τ XN]).cells (m * 3)) 94)).heap[w.heap.size+1]?=ς (γ #[ι κ 0,ι κ 0,τ ⟨#[]⟩] 94 (0,0)):=by
  have q:=η (w.alloc (γ #[ι κ 0,ι κ 0,τ ⟨#[]⟩] 94)) (γ #[ι κ 0,ι κ 0,τ ⟨#[]⟩] 94);rw [ω] at q;exact AC q (AE _ _)
 have hs0:w.heap.size+2<=(((w.alloc (γ #[ι κ 0,ι κ 0,τ ⟨#[]⟩] 94)).alloc (γ #[ι κ 0,ι κ 0,τ ⟨#[]⟩] 94)).alloc (γ (madeCells (χ #[ι κ 0,ι κ 0,τ XN]).cells (m * 3)) 94)).heap.size:=by rw [ω,hsU];omega
 rw [hsU] at hmk;generalize ((w.alloc (γ #[ι κ 0,ι κ 0,τ ⟨#[]⟩] 94)).alloc (γ #[ι κ 0,ι κ 0,τ ⟨#[]⟩] 94)).alloc (γ (madeCells (χ #[ι κ 0,ι κ 0,τ XN]).cells (m * 3)) 94)=w0 at hmk hO0 hb0 hq0 hq1 hs0;go_enter Tryz.func165,Tryz.ntmps165
 go_wp2;clear hmk;go_loopw [7,9,10,11,12,18] (λv7 _ _ _ _ i wr=>∃ (k g cap:Nat) (L:List Itm) (lst:Itm),k<=m/\i=ι κ k/\v7=σ (ς ⟨g,0,ν⟩) L.length cap/\vl C n R I k=L/\Sv wr (w.heap.size+2) g cap L/\(0<k->L.getLast?=ς lst)/\wr.heap[w.heap.size]?=ς (γ #[ι κ 0,ι κ 0,τ ⟨#[]⟩] 94 (0,0))/\wr.heap[w.heap.size+1]?=ς (γ #[ι κ lst.o,ι κ lst.m,τ lst.s] 94 (0,0))/\υ w.heap.size w wr/\w.heap.size+2<=wr.heap.size) (λ_ _ _ _ _ i _=>m - (XX i).toNat)
 case atStart=>exact⟨0,w.heap.size+2,m,[],d0,by omega,rfl,rfl,rfl,hO0,λh=>by omega,hq0,hq1,hb0,hs0⟩
 case round=>
  obtain⟨k,g,cap,L,lst,hk,rfl,rfl,hvl,hO,hlst,hr0,hr1,hb,hsz⟩:=hrel;have HVL:Hid (vl C n R I k=L/\(0<k->L.getLast?=ς lst)):=⟨hvl,hlst⟩;clear hvl hlst;obtain⟨lo,lm,ls⟩:=lst;by_cases hlt:k<m
  rotate_left
  ·
   obtain rfl:k=m:=by omega
   have e:Hid (Cn C n R I k=⟨lo,lm,ls⟩):=by
    show _=_
    have hl1:=Fh (C:=C) (n:=n) (R:=R) HX.out;rw [HVL.out.1] at hl1;have hk1:0<k:=by
     have:=F0 HX.out;omega
    have h3:=HVL.out.2 hk1;obtain⟨x,rfl⟩:=Wl (L:=L) (by omega);simp at h3
    unfold Cn;rw [HVL.out.1,h3];rfl
   obtain⟨a0,a1,a2,af0,af1,af2⟩:=AX hr0;obtain⟨b0,b1,b2,-⟩:=AX hr1;go_wp2;refine XL (AF Tryz.results165 _ _ w.heap.size 94 _ (0,0) _ rfl (Cz hr0 _ _ _) Tryz.underlying94 rfl (by kernel_rfl)) rfl ?_;exact⟨by rw [e.out];rfl,BB hb (XK _) _ _ _⟩
  obtain⟨d,hd,hok,had⟩:=F1 HX.out hlt;have hlen:((L.length:Nat):Int)=d:=by
   have:=Fh (C:=C) (n:=n) (R:=R) hd;rwa [HVL.out.1] at this
  have hll:=F0 hd;have hsum:Cp L<=200 * k:=by
   have:=HSZ.out k (by omega);rwa [HVL.out.1] at this
  have hst:vl C n R I (k+1)=L.take (L.length - DZ (I k).o) ++ [ES C n R (I k) (L.drop (L.length - DZ (I k).o))]:=by
   rw [vl,HVL.out.1]
  have hcol:(I k).o=3->∃ j,Bo C (I k).s n=ς j:=λho=>Nr hlt HK0.out ho;have htyk:=HTY.out k (by omega);rw [HVL.out.1] at htyk;have hstp:=(KY (KZ HK0.out (show k+1<=m by omega)) (KZ HK0.out (show k<=m by omega))).1;obtain⟨b,off,rfl,c0,c1,c2,hs⟩:=hI.later hb k hlt;obtain⟨o,mm,s,hIk⟩:∃ o mm s,I k=⟨o,mm,s⟩:=⟨_,_,_,rfl⟩;unfold LY at hstp;rw [hIk] at hok had hst c0 c1 c2 hs hcol hstp;simp only at hok had hst c0 c1 c2 hs hcol hstp
  have hop:=DN hok;have HOPN:Hid (DT o mm s=Aj o):=Mx hok;have ha:=EP o;have hal:=CF o;obtain⟨j,hj⟩:∃ j:Nat,L.length - DZ o=j:=⟨_,rfl⟩;rw [←htyk.1,hj] at hstp;rw [hj] at hst;have hgood:(o=7∨o=8)->CU ((L.drop j).getD 0 d0)/\CU ((L.drop j).getD 1 d0)/\((L.drop j).getD 0 d0).o=((L.drop j).getD 1 d0).o:=λh78=>by
   have h2:Aj o=2:=by rcases h78 with rfl | rfl <;> rfl
   rw [DY,DY];have t0:=htyk.2 (j+0) (by omega);have t1:=htyk.2 (j+1) (by omega);refine⟨t0.2,t1.2,?_⟩;rw [t0.1,t1.1];unfold Bk at hstp;simp only at hstp
   rw [if_neg (by omega),if_neg (by omega),if_pos h78] at hstp;by_cases e:((ck C n I k).1.drop j).getD 0 0=((ck C n I k).1.drop j).getD 1 0
   · rwa [Bj,Bj] at e
   · rw [if_neg e] at hstp;simp at hstp
  have hj1:((L.length:Nat):Int) - Aj o=(j:Nat):=by omega
  have hjl:j<=L.length:=by omega
  have hcp:=IM hO;have hjj:(j:Int)<=L.length:=by omega
  have hjc:(j:Int)<=cap:=by omega
  have hjc2:j<=cap:=by omega
  have hj0:(0:Int)<=j:=by omega
  have hj100:j<=100:=by omega
  obtain⟨x,hx⟩:∃ x,ES C n R ⟨o,mm,s⟩ (L.drop j)=x:=⟨_,rfl⟩;have hszd:∀ i,i<(L.drop j).length->((L.drop j).getD i d0).s.size<=1000000:=λi hi=>by
   rw [List.length_drop] at hi;rw [DY];have:=Fm (L:=L) (k:=j+i) (by omega);omega
  have HV0:∀ (ad:Option Addr) (cx:Nat) W',υ w.heap.size w W'->IL W' ad (L.length - j) (λi=>(L.drop j).getD i d0)->XR μ 166 #[χ #[ι κ o,ι κ mm,τ s],σ ad (L.length - j) cx,ψ (ς ⟨p5,0,ν⟩),ψ (ς ⟨p3,0,ν⟩)] W' (λe w'=>e=ρ (θ #[χ #[ι κ x.o,ι κ x.m,τ x.s],ι κ 0])/\υ W'.heap.size W' w'):=λad cx W' hW hIA=>by
   have hln:(L.drop j).length=L.length - j:=List.length_drop;have:=Ve n C mb ar cr R p5 p3 o mm s ad cx (L.drop j) W' (hP.later hW) HDP.out (hR.later hW) (AB hW h5) (AB hW h31) (by rw [hln];exact hIA) (by rw [hln];omega) (by rw [hln];omega) hop hcol hgood hszd hs;rwa [hx,hln] at this
  have HV:Hid (∀ (ad:Option Addr) (cx:Nat) W',υ w.heap.size w W'->IL W' ad (L.length - j) (λi=>(L.drop j).getD i d0)->XR μ 166 #[χ #[ι κ o,ι κ mm,τ s],σ ad (L.length - j) cx,ψ (ς ⟨p5,0,ν⟩),ψ (ς ⟨p3,0,ν⟩)] W' (λe w'=>e=ρ (θ #[χ #[ι κ x.o,ι κ x.m,τ x.s],ι κ 0])/\υ W'.heap.size W' w')):=HV0;have HST:Hid (vl C n R I (k+1)=L.take j ++ [x]):=by show _=_;rw [hst,hx]
  have HLE:Hid (((L.length:Nat):Int)=d/\L.length - DZ o=j/\L.length<=100):=⟨hlen,hj,by omega⟩;have hsumL:Cp L<=1048576:=by omega
  have HIL1:Hid (∀ W',υ wr.heap.size wr W'->IL W' (ς ⟨g,j * 3,ν⟩) (L.length - j) (λi=>(L.drop j).getD i d0)):=λW' hW=>Sv.ilA (AH hO hW) hsumL j;have HIL0:Hid (cap=j->∀ W',IL W' (ς ⟨g,0,ν⟩) (L.length - j) (λi=>(L.drop j).getD i d0)):=λhc W' q hq=>by omega
  clear hst hIk hj ha had hd hok hlen hx HV0 hgood hstp htyk hcol hszd;have hB1:υ wr.heap.size wr (wr.alloc (γ #[ι κ o,ι κ mm,τ s] 135)):=AE _ _;obtain⟨y0,y1,y2,-⟩:=AX (η wr (γ #[ι κ o,ι κ mm,τ s] 135));by_cases hcj:cap=j
  ·
   have hOj:Sv wr (w.heap.size+2) g j L:=by rw [←hcj];exact hO
   go_upto_region 7 with (go_at_call 192;refine(Cy o mm s _).mono ?_;rintro e w3 ⟨rfl,hb3⟩;rw [HOPN.out];have y0_:=AB hb3 y0;have y1_:=AB hb3 y1;have y2_:=AB hb3 y2)
   have hb03:=AA hB1 hb3;have hs03:=hb03.size;refine XO (S:=λx_=>υ w3.heap.size w3 x_) (by kernel_rfl) (CE _) (λjH=>?_);generalize w3.drew=v at jH ⊢;refine tk 0 Ue (λx jS=>by go_simp<;>rfl) jH ?_
   try simp only [zS]
   refine tk 1 Ud (λx jS=>by have k0:=AB jS y0_;have k1:=AB jS y1_;have k2:=AB jS y2_;go_simp<;>rfl) jH ?_
   try simp only [zS]
   refine tk 2 Uc (λx jS=>by go_simp<;>rfl) jH ?_
   try simp only [zS]
   refine tk 3 Ub (λx jS=>by go_simp<;>rfl) jH ?_
   try simp only [zS]
   refine tk 4 Ua (λx jS=>by go_simp<;>rfl) jH ?_
   try simp only [zS]
   refine wpAnyH_ready (rs:=[5,9]) (by kernel_rfl) (by simp) ?_;refine(AllReadyH.cons (o:=Ot) rfl (λK hK=>?w1_c2) (AllReadyH.cons (o:=Oq) rfl (λK hK=>?w1_c1) AllReadyH.nil));case' w1_c2=>
    go_simp;refine(HV.out (ς ⟨g,0,ν⟩) 0 _ (AA hb (AA hb03 jH)) (HIL0.out hcj _)).mono ?_;rintro e v ⟨rfl,hb5⟩;refine hK.out _ _ (AA jH hb5) (λjH=>?_);clear hK K;try simp only [zS]
    clear hb5;refine tk 6 Oo (λx jS=>by go_simp<;>rfl) jH ?_
    try simp only [zS]
    refine tk 7 On (λx jS=>by go_simp<;>rfl) jH ?_
    try simp only [zS]
    refine tk 8 Om (λx jS=>by go_simp<;>rfl) jH ?_
    try simp only [zS]
    refine rd 9 Oq (λK hK=>?_);have hqT:=η v (γ #[ι κ 0,ι κ 0,τ ⟨#[]⟩] 94);have hbT:=AE v (γ #[ι κ 0,ι κ 0,τ ⟨#[]⟩] 94);have hsT:=jH.size;go_simp;refine hK.out _ _ (AA jH (AE _ _)) (λjH=>?_);clear hK K;try simp only [zS]
    generalize v.heap.size=BT at hqT hsT ⊢;generalize v.alloc (γ #[ι κ 0,ι κ 0,τ ⟨#[]⟩] 94)=v at hqT hbT  jH ⊢;clear hbT;refine rd 10 Jj (λK hK=>?_);obtain⟨s0_,s1_,s2_,sf0_,sf1_,sf2_⟩:=AX hqT;go_simp;refine hK.out _ _ (BB jH hsT _ _ _) (λjH=>?_);clear hK K s0_ s1_ s2_ sf0_ sf1_ sf2_;try simp only [zS]
    replace hqT:=EE hqT (ι κ x.o) (ι κ x.m) (τ x.s);refine tk 11 Ji (λx jS=>by go_simp<;>rfl) jH ?_
    try simp only [zS]
    refine XW (by kernel_rfl) ?_ _;generalize (((v.setCell ⟨BT,0,ν⟩ (ι κ x.o)).setCell ⟨BT,1,ν⟩ (ι κ x.m)).setCell ⟨BT,2,ν⟩ (τ x.s))=w6 at hqT jH ⊢;have hb6:=AA hb03 jH;have h6s:=hb6.size;clear jH;have q1:=AC hr1 hb6;obtain⟨l0_,l1_,l2_,lf0,lf1,lf2⟩:=AX q1;obtain⟨u0_,u1_,u2_,-⟩:=AX hqT;go_upto_region 11 with (fail)
    have p1:(((w6.setCell ⟨w.heap.size+1,0,ν⟩ (ι κ x.o)).setCell ⟨w.heap.size+1,1,ν⟩ (ι κ x.m)).setCell ⟨w.heap.size+1,2,ν⟩ (τ x.s)).heap[w.heap.size+1]?=ς (γ #[ι κ x.o,ι κ x.m,τ x.s] 94 (0,0)):=EE q1 _ _ _;have p0:(((w6.setCell ⟨w.heap.size+1,0,ν⟩ (ι κ x.o)).setCell ⟨w.heap.size+1,1,ν⟩ (ι κ x.m)).setCell ⟨w.heap.size+1,2,ν⟩ (τ x.s)).heap[w.heap.size]?=ς (γ #[ι κ 0,ι κ 0,τ ⟨#[]⟩] 94 (0,0)):=AS (AS (AS (AC hr0 hb6) (by omega)) (by omega)) (by omega);have pT:(((w6.setCell ⟨w.heap.size+1,0,ν⟩ (ι κ x.o)).setCell ⟨w.heap.size+1,1,ν⟩ (ι κ x.m)).setCell ⟨w.heap.size+1,2,ν⟩ (τ x.s)).heap[BT]?=ς (γ #[ι κ x.o,ι κ x.m,τ x.s] 94 (0,0)):=AS (AS (AS hqT (by omega)) (by omega)) (by omega);have hO7:Sv (((w6.setCell ⟨w.heap.size+1,0,ν⟩ (ι κ x.o)).setCell ⟨w.heap.size+1,1,ν⟩ (ι κ x.m)).setCell ⟨w.heap.size+1,2,ν⟩ (τ x.s)) (w.heap.size+2) g j L:=Bm (Bm (Bm (AH hOj hb6) (by omega)) (by omega)) (by omega);have hb7:υ w.heap.size w (((w6.setCell ⟨w.heap.size+1,0,ν⟩ (ι κ x.o)).setCell ⟨w.heap.size+1,1,ν⟩ (ι κ x.m)).setCell ⟨w.heap.size+1,2,ν⟩ (τ x.s)):=BB (AA hb hb6) (by omega) _ _ _;have hs7:wr.heap.size<=(((w6.setCell ⟨w.heap.size+1,0,ν⟩ (ι κ x.o)).setCell ⟨w.heap.size+1,1,ν⟩ (ι κ x.m)).setCell ⟨w.heap.size+1,2,ν⟩ (τ x.s)).heap.size:=by rw [Xl,Xl,Xl];exact h6s
    generalize (((w6.setCell ⟨w.heap.size+1,0,ν⟩ (ι κ x.o)).setCell ⟨w.heap.size+1,1,ν⟩ (ι κ x.m)).setCell ⟨w.heap.size+1,2,ν⟩ (τ x.s))=w7 at p1 p0 pT hO7 hb7 hs7 ⊢;clear l0_ l1_ l2_ lf0 lf1 lf2 u0_ u1_ u2_ q1 hqT;have hTg:BT≠g:=by have:=(hO.lt g rfl).2;omega
    refine XO (S:=λx_=>x_.heap[BT]?=ς (γ #[ι κ x.o,ι κ x.m,τ x.s] 94 (0,0))) (by kernel_rfl) (pT) (λjH=>?_);replace p0:w7.drew.heap[w.heap.size]?=_:=p0;replace p1:w7.drew.heap[w.heap.size+1]?=_:=p1;replace hO7:Sv w7.drew (w.heap.size+2) g j L:=hO7;replace hb7:υ w.heap.size w w7.drew:=AA hb7 (CE _);replace hs7:wr.heap.size<=w7.drew.heap.size:=hs7;generalize w7.drew=v at jH p0 p1 hO7 hb7 hs7 ⊢;refine tk 0 Jh (λx jS=>by go_simp<;>rfl) jH ?_
    try simp only [zS]
    refine tk 1 Jg (λx jS=>by go_simp<;>rfl) jH ?_
    try simp only [zS]
    refine tk 2 Jf (λx jS=>by go_simp<;>rfl) jH ?_
    try simp only [zS]
    refine tk 3 Je (λx jS=>by obtain⟨k0_,k1_,k2_,-⟩:=AX jS;go_simp<;>rfl) jH ?_
    try simp only [zS]
    refine rd 4 Jd (λK hK=>?_);have hqN:=η v (γ #[ι κ x.o,ι κ x.m,τ x.s] 94);have hbN:=AE v (γ #[ι κ x.o,ι κ x.m,τ x.s] 94);go_simp;refine hK.out _ _ (AC jH hbN) (λjH=>?_);clear hK K;try simp only [zS]
    replace p0:=AC p0 hbN;replace p1:=AC p1 hbN;replace hO7:Sv _ (w.heap.size+2) g j L:=AH hO7 hbN;replace hb7:=AA hb7 hbN;replace hs7:=Xe hs7 hbN.size;generalize v.heap.size=BN at hqN ⊢;generalize v.alloc (γ #[ι κ x.o,ι κ x.m,τ x.s] 94)=v at hqN jH p0 p1 hO7 hb7 hs7 hbN ⊢;clear hbN;refine rd 5 Jc (λK hK=>?_);rw [if_pos (by kernel_rfl)];refine wp_append_lies _ _ _ _ rfl (w.heap.size+2) 94 j3 (χ #[ι κ 0,ι κ 0,τ XN]) 3 32 Tryz.underlying60 HI3.out hz30 hz31 hz32 rfl (by omega) (σ (ς ⟨g,0,ν⟩) j j) j (A5 (L.take j)) rfl (Dy hO7 hjl) ⟨BN,0,ν⟩ 1 1 (v3 x) rfl rfl (XP hqN) (Af [x]) (by omega) (by unfold maxLen;omega) (by omega) (by omega) _ rfl ?_;intro g8 cap8 v hO8 hgr8 hat8 hlt8;have hgl:=(hO7.lt g rfl).1;have hgb:∀ b,b<w.heap.size+2->ς b≠(σ (ς ⟨g,0,ν⟩) j j).ownBlock:=λb hb e=>by have e3:b=g:=XM e;omega
    have hTne:ς BT≠(σ (ς ⟨g,0,ν⟩) j j).ownBlock:=λe=>hTg (XM e);refine hK.out _ _ (B9 jH hgr8 hTne) (λjH=>?_);clear hK K hat8;try simp only [zS]
    replace p0:=B9 p0 hgr8 (hgb _ (by omega));replace p1:=B9 p1 hgr8 (hgb _ (by omega));replace hb7:=Ik hb7 hgr8 (λy hy=>hgb _ (by omega));replace hs7:=Xe hs7 hgr8.size;clear hgr8;refine tk 6 Jb (λx jS=>by go_simp<;>rfl) jH ?_
    try simp only [zS]
    refine XW (by kernel_rfl) ?_ _;obtain⟨e1_,e2_⟩:=Di (r:=x) hjl hO8;go_wp2;go_roundw
    case rel=>exact⟨k+1,g8,cap8,L.take j ++ [x],x,by omega,by go_num,by rw [e1_],HST.out,e2_,λ_=>by simp,p0,p1,hb7,by omega⟩
    case measure=>simp [XX];omega
   case' w1_c1=>
    have hqT:=η v (γ #[ι κ 0,ι κ 0,τ ⟨#[]⟩] 94);have hbT:=AE v (γ #[ι κ 0,ι κ 0,τ ⟨#[]⟩] 94);have hsT:=jH.size;go_simp;refine hK.out _ _ (AA jH (AE _ _)) (λjH=>?_);clear hK K;try simp only [zS]
    generalize v.heap.size=BT at hqT hsT ⊢;generalize v.alloc (γ #[ι κ 0,ι κ 0,τ ⟨#[]⟩] 94)=v at hqT hbT  jH ⊢;clear hbT;refine rd 5 Ot (λK hK=>?_);go_simp;refine(HV.out (ς ⟨g,0,ν⟩) 0 _ (AA hb (AA hb03 jH)) (HIL0.out hcj _)).mono ?_;rintro e v ⟨rfl,hb5⟩;refine hK.out _ _ (AA jH hb5) (λjH=>?_);clear hK K;try simp only [zS]
    replace hqT:=AC hqT hb5;clear hb5;refine tk 6 Oo (λx jS=>by go_simp<;>rfl) jH ?_
    try simp only [zS]
    refine tk 7 On (λx jS=>by go_simp<;>rfl) jH ?_
    try simp only [zS]
    refine tk 8 Om (λx jS=>by go_simp<;>rfl) jH ?_
    try simp only [zS]
    refine rd 10 Jj (λK hK=>?_);obtain⟨s0_,s1_,s2_,sf0_,sf1_,sf2_⟩:=AX hqT;go_simp;refine hK.out _ _ (BB jH hsT _ _ _) (λjH=>?_);clear hK K s0_ s1_ s2_ sf0_ sf1_ sf2_;try simp only [zS]
    replace hqT:=EE hqT (ι κ x.o) (ι κ x.m) (τ x.s);refine tk 11 Ji (λx jS=>by go_simp<;>rfl) jH ?_
    try simp only [zS]
    refine XW (by kernel_rfl) ?_ _;generalize (((v.setCell ⟨BT,0,ν⟩ (ι κ x.o)).setCell ⟨BT,1,ν⟩ (ι κ x.m)).setCell ⟨BT,2,ν⟩ (τ x.s))=w6 at hqT jH ⊢;have hb6:=AA hb03 jH;have h6s:=hb6.size;clear jH;have q1:=AC hr1 hb6;obtain⟨l0_,l1_,l2_,lf0,lf1,lf2⟩:=AX q1;obtain⟨u0_,u1_,u2_,-⟩:=AX hqT;go_upto_region 11 with (fail)
    have p1:(((w6.setCell ⟨w.heap.size+1,0,ν⟩ (ι κ x.o)).setCell ⟨w.heap.size+1,1,ν⟩ (ι κ x.m)).setCell ⟨w.heap.size+1,2,ν⟩ (τ x.s)).heap[w.heap.size+1]?=ς (γ #[ι κ x.o,ι κ x.m,τ x.s] 94 (0,0)):=EE q1 _ _ _;have p0:(((w6.setCell ⟨w.heap.size+1,0,ν⟩ (ι κ x.o)).setCell ⟨w.heap.size+1,1,ν⟩ (ι κ x.m)).setCell ⟨w.heap.size+1,2,ν⟩ (τ x.s)).heap[w.heap.size]?=ς (γ #[ι κ 0,ι κ 0,τ ⟨#[]⟩] 94 (0,0)):=AS (AS (AS (AC hr0 hb6) (by omega)) (by omega)) (by omega);have pT:(((w6.setCell ⟨w.heap.size+1,0,ν⟩ (ι κ x.o)).setCell ⟨w.heap.size+1,1,ν⟩ (ι κ x.m)).setCell ⟨w.heap.size+1,2,ν⟩ (τ x.s)).heap[BT]?=ς (γ #[ι κ x.o,ι κ x.m,τ x.s] 94 (0,0)):=AS (AS (AS hqT (by omega)) (by omega)) (by omega);have hO7:Sv (((w6.setCell ⟨w.heap.size+1,0,ν⟩ (ι κ x.o)).setCell ⟨w.heap.size+1,1,ν⟩ (ι κ x.m)).setCell ⟨w.heap.size+1,2,ν⟩ (τ x.s)) (w.heap.size+2) g j L:=Bm (Bm (Bm (AH hOj hb6) (by omega)) (by omega)) (by omega);have hb7:υ w.heap.size w (((w6.setCell ⟨w.heap.size+1,0,ν⟩ (ι κ x.o)).setCell ⟨w.heap.size+1,1,ν⟩ (ι κ x.m)).setCell ⟨w.heap.size+1,2,ν⟩ (τ x.s)):=BB (AA hb hb6) (by omega) _ _ _;have hs7:wr.heap.size<=(((w6.setCell ⟨w.heap.size+1,0,ν⟩ (ι κ x.o)).setCell ⟨w.heap.size+1,1,ν⟩ (ι κ x.m)).setCell ⟨w.heap.size+1,2,ν⟩ (τ x.s)).heap.size:=by rw [Xl,Xl,Xl];exact h6s
    generalize (((w6.setCell ⟨w.heap.size+1,0,ν⟩ (ι κ x.o)).setCell ⟨w.heap.size+1,1,ν⟩ (ι κ x.m)).setCell ⟨w.heap.size+1,2,ν⟩ (τ x.s))=w7 at p1 p0 pT hO7 hb7 hs7 ⊢;clear l0_ l1_ l2_ lf0 lf1 lf2 u0_ u1_ u2_ q1 hqT;have hTg:BT≠g:=by have:=(hO.lt g rfl).2;omega
    refine XO (S:=λx_=>x_.heap[BT]?=ς (γ #[ι κ x.o,ι κ x.m,τ x.s] 94 (0,0))) (by kernel_rfl) (pT) (λjH=>?_);replace p0:w7.drew.heap[w.heap.size]?=_:=p0;replace p1:w7.drew.heap[w.heap.size+1]?=_:=p1;replace hO7:Sv w7.drew (w.heap.size+2) g j L:=hO7;replace hb7:υ w.heap.size w w7.drew:=AA hb7 (CE _);replace hs7:wr.heap.size<=w7.drew.heap.size:=hs7;generalize w7.drew=v at jH p0 p1 hO7 hb7 hs7 ⊢;refine tk 0 Jh (λx jS=>by go_simp<;>rfl) jH ?_
    try simp only [zS]
    refine tk 1 Jg (λx jS=>by go_simp<;>rfl) jH ?_
    try simp only [zS]
    refine tk 2 Jf (λx jS=>by go_simp<;>rfl) jH ?_
    try simp only [zS]
    refine tk 3 Je (λx jS=>by obtain⟨k0_,k1_,k2_,-⟩:=AX jS;go_simp<;>rfl) jH ?_
    try simp only [zS]
    refine rd 4 Jd (λK hK=>?_);have hqN:=η v (γ #[ι κ x.o,ι κ x.m,τ x.s] 94);have hbN:=AE v (γ #[ι κ x.o,ι κ x.m,τ x.s] 94);go_simp;refine hK.out _ _ (AC jH hbN) (λjH=>?_);clear hK K;try simp only [zS]
    replace p0:=AC p0 hbN;replace p1:=AC p1 hbN;replace hO7:Sv _ (w.heap.size+2) g j L:=AH hO7 hbN;replace hb7:=AA hb7 hbN;replace hs7:=Xe hs7 hbN.size;generalize v.heap.size=BN at hqN ⊢;generalize v.alloc (γ #[ι κ x.o,ι κ x.m,τ x.s] 94)=v at hqN jH p0 p1 hO7 hb7 hs7 hbN ⊢;clear hbN;refine rd 5 Jc (λK hK=>?_);rw [if_pos (by kernel_rfl)];refine wp_append_lies _ _ _ _ rfl (w.heap.size+2) 94 j3 (χ #[ι κ 0,ι κ 0,τ XN]) 3 32 Tryz.underlying60 HI3.out hz30 hz31 hz32 rfl (by omega) (σ (ς ⟨g,0,ν⟩) j j) j (A5 (L.take j)) rfl (Dy hO7 hjl) ⟨BN,0,ν⟩ 1 1 (v3 x) rfl rfl (XP hqN) (Af [x]) (by omega) (by unfold maxLen;omega) (by omega) (by omega) _ rfl ?_;intro g8 cap8 v hO8 hgr8 hat8 hlt8;have hgl:=(hO7.lt g rfl).1;have hgb:∀ b,b<w.heap.size+2->ς b≠(σ (ς ⟨g,0,ν⟩) j j).ownBlock:=λb hb e=>by have e3:b=g:=XM e;omega
    have hTne:ς BT≠(σ (ς ⟨g,0,ν⟩) j j).ownBlock:=λe=>hTg (XM e);refine hK.out _ _ (B9 jH hgr8 hTne) (λjH=>?_);clear hK K hat8;try simp only [zS]
    replace p0:=B9 p0 hgr8 (hgb _ (by omega));replace p1:=B9 p1 hgr8 (hgb _ (by omega));replace hb7:=Ik hb7 hgr8 (λy hy=>hgb _ (by omega));replace hs7:=Xe hs7 hgr8.size;clear hgr8;refine tk 6 Jb (λx jS=>by go_simp<;>rfl) jH ?_
    try simp only [zS]
    refine XW (by kernel_rfl) ?_ _;obtain⟨e1_,e2_⟩:=Di (r:=x) hjl hO8;go_wp2;go_roundw
    case rel=>exact⟨k+1,g8,cap8,L.take j ++ [x],x,by omega,by go_num,by rw [e1_],HST.out,e2_,λ_=>by simp,p0,p1,hb7,by omega⟩
    case measure=>simp [XX];omega
  ·
   have hOj:Sv wr (w.heap.size+2) g cap L:=hO;go_upto_region 7 with (go_at_call 192;refine(Cy o mm s _).mono ?_;rintro e w3 ⟨rfl,hb3⟩;rw [HOPN.out];have y0_:=AB hb3 y0;have y1_:=AB hb3 y1;have y2_:=AB hb3 y2)
   have hb03:=AA hB1 hb3;have hs03:=hb03.size;refine XO (S:=λx_=>υ w3.heap.size w3 x_) (by kernel_rfl) (CE _) (λjH=>?_);generalize w3.drew=v at jH ⊢;refine tk 0 Ue (λx jS=>by go_simp<;>rfl) jH ?_
   try simp only [zS]
   refine tk 1 Ud (λx jS=>by have k0:=AB jS y0_;have k1:=AB jS y1_;have k2:=AB jS y2_;go_simp<;>rfl) jH ?_
   try simp only [zS]
   refine tk 2 Uc (λx jS=>by go_simp<;>rfl) jH ?_
   try simp only [zS]
   refine tk 3 Ub (λx jS=>by go_simp<;>rfl) jH ?_
   try simp only [zS]
   refine tk 4 Ua (λx jS=>by go_simp<;>rfl) jH ?_
   try simp only [zS]
   refine wpAnyH_ready (rs:=[5,9]) (by kernel_rfl) (by simp) ?_;refine(AllReadyH.cons (o:=Ot) rfl (λK hK=>?w4_c2) (AllReadyH.cons (o:=Oq) rfl (λK hK=>?w4_c1) AllReadyH.nil));case' w4_c2=>
    go_simp;refine(HV.out (ς ⟨g,j * 3,ν⟩) (cap - j) _ (AA hb (AA hb03 jH)) (HIL1.out _ (AA hb03 jH))).mono ?_;rintro e v ⟨rfl,hb5⟩;refine hK.out _ _ (AA jH hb5) (λjH=>?_);clear hK K;try simp only [zS]
    clear hb5;refine tk 6 Oo (λx jS=>by go_simp<;>rfl) jH ?_
    try simp only [zS]
    refine tk 7 On (λx jS=>by go_simp<;>rfl) jH ?_
    try simp only [zS]
    refine tk 8 Om (λx jS=>by go_simp<;>rfl) jH ?_
    try simp only [zS]
    refine rd 9 Oq (λK hK=>?_);have hqT:=η v (γ #[ι κ 0,ι κ 0,τ ⟨#[]⟩] 94);have hbT:=AE v (γ #[ι κ 0,ι κ 0,τ ⟨#[]⟩] 94);have hsT:=jH.size;go_simp;refine hK.out _ _ (AA jH (AE _ _)) (λjH=>?_);clear hK K;try simp only [zS]
    generalize v.heap.size=BT at hqT hsT ⊢;generalize v.alloc (γ #[ι κ 0,ι κ 0,τ ⟨#[]⟩] 94)=v at hqT hbT  jH ⊢;clear hbT;refine rd 10 Jj (λK hK=>?_);obtain⟨s0_,s1_,s2_,sf0_,sf1_,sf2_⟩:=AX hqT;go_simp;refine hK.out _ _ (BB jH hsT _ _ _) (λjH=>?_);clear hK K s0_ s1_ s2_ sf0_ sf1_ sf2_;try simp only [zS]
    replace hqT:=EE hqT (ι κ x.o) (ι κ x.m) (τ x.s);refine tk 11 Ji (λx jS=>by go_simp<;>rfl) jH ?_
    try simp only [zS]
    refine XW (by kernel_rfl) ?_ _;generalize (((v.setCell ⟨BT,0,ν⟩ (ι κ x.o)).setCell ⟨BT,1,ν⟩ (ι κ x.m)).setCell ⟨BT,2,ν⟩ (τ x.s))=w6 at hqT jH ⊢;have hb6:=AA hb03 jH;have h6s:=hb6.size;clear jH;have q1:=AC hr1 hb6;obtain⟨l0_,l1_,l2_,lf0,lf1,lf2⟩:=AX q1;obtain⟨u0_,u1_,u2_,-⟩:=AX hqT;go_upto_region 11 with (fail)
    have p1:(((w6.setCell ⟨w.heap.size+1,0,ν⟩ (ι κ x.o)).setCell ⟨w.heap.size+1,1,ν⟩ (ι κ x.m)).setCell ⟨w.heap.size+1,2,ν⟩ (τ x.s)).heap[w.heap.size+1]?=ς (γ #[ι κ x.o,ι κ x.m,τ x.s] 94 (0,0)):=EE q1 _ _ _;have p0:(((w6.setCell ⟨w.heap.size+1,0,ν⟩ (ι κ x.o)).setCell ⟨w.heap.size+1,1,ν⟩ (ι κ x.m)).setCell ⟨w.heap.size+1,2,ν⟩ (τ x.s)).heap[w.heap.size]?=ς (γ #[ι κ 0,ι κ 0,τ ⟨#[]⟩] 94 (0,0)):=AS (AS (AS (AC hr0 hb6) (by omega)) (by omega)) (by omega);have pT:(((w6.setCell ⟨w.heap.size+1,0,ν⟩ (ι κ x.o)).setCell ⟨w.heap.size+1,1,ν⟩ (ι κ x.m)).setCell ⟨w.heap.size+1,2,ν⟩ (τ x.s)).heap[BT]?=ς (γ #[ι κ x.o,ι κ x.m,τ x.s] 94 (0,0)):=AS (AS (AS hqT (by omega)) (by omega)) (by omega);have hO7:Sv (((w6.setCell ⟨w.heap.size+1,0,ν⟩ (ι κ x.o)).setCell ⟨w.heap.size+1,1,ν⟩ (ι κ x.m)).setCell ⟨w.heap.size+1,2,ν⟩ (τ x.s)) (w.heap.size+2) g cap L:=Bm (Bm (Bm (AH hOj hb6) (by omega)) (by omega)) (by omega);have hb7:υ w.heap.size w (((w6.setCell ⟨w.heap.size+1,0,ν⟩ (ι κ x.o)).setCell ⟨w.heap.size+1,1,ν⟩ (ι κ x.m)).setCell ⟨w.heap.size+1,2,ν⟩ (τ x.s)):=BB (AA hb hb6) (by omega) _ _ _;have hs7:wr.heap.size<=(((w6.setCell ⟨w.heap.size+1,0,ν⟩ (ι κ x.o)).setCell ⟨w.heap.size+1,1,ν⟩ (ι κ x.m)).setCell ⟨w.heap.size+1,2,ν⟩ (τ x.s)).heap.size:=by rw [Xl,Xl,Xl];exact h6s
    generalize (((w6.setCell ⟨w.heap.size+1,0,ν⟩ (ι κ x.o)).setCell ⟨w.heap.size+1,1,ν⟩ (ι κ x.m)).setCell ⟨w.heap.size+1,2,ν⟩ (τ x.s))=w7 at p1 p0 pT hO7 hb7 hs7 ⊢;clear l0_ l1_ l2_ lf0 lf1 lf2 u0_ u1_ u2_ q1 hqT;have hTg:BT≠g:=by have:=(hO.lt g rfl).2;omega
    refine XO (S:=λx_=>x_.heap[BT]?=ς (γ #[ι κ x.o,ι κ x.m,τ x.s] 94 (0,0))) (by kernel_rfl) (pT) (λjH=>?_);replace p0:w7.drew.heap[w.heap.size]?=_:=p0;replace p1:w7.drew.heap[w.heap.size+1]?=_:=p1;replace hO7:Sv w7.drew (w.heap.size+2) g cap L:=hO7;replace hb7:υ w.heap.size w w7.drew:=AA hb7 (CE _);replace hs7:wr.heap.size<=w7.drew.heap.size:=hs7;generalize w7.drew=v at jH p0 p1 hO7 hb7 hs7 ⊢;refine tk 0 Jh (λx jS=>by go_simp<;>rfl) jH ?_
    try simp only [zS]
    refine tk 1 Jg (λx jS=>by go_simp<;>rfl) jH ?_
    try simp only [zS]
    refine tk 2 Jf (λx jS=>by go_simp<;>rfl) jH ?_
    try simp only [zS]
    refine tk 3 Je (λx jS=>by obtain⟨k0_,k1_,k2_,-⟩:=AX jS;go_simp<;>rfl) jH ?_
    try simp only [zS]
    refine rd 4 Jd (λK hK=>?_);have hqN:=η v (γ #[ι κ x.o,ι κ x.m,τ x.s] 94);have hbN:=AE v (γ #[ι κ x.o,ι κ x.m,τ x.s] 94);go_simp;refine hK.out _ _ (AC jH hbN) (λjH=>?_);clear hK K;try simp only [zS]
    replace p0:=AC p0 hbN;replace p1:=AC p1 hbN;replace hO7:Sv _ (w.heap.size+2) g cap L:=AH hO7 hbN;replace hb7:=AA hb7 hbN;replace hs7:=Xe hs7 hbN.size;generalize v.heap.size=BN at hqN ⊢;generalize v.alloc (γ #[ι κ x.o,ι κ x.m,τ x.s] 94)=v at hqN jH p0 p1 hO7 hb7 hs7 hbN ⊢;clear hbN;refine rd 5 Jc (λK hK=>?_);rw [if_pos (by kernel_rfl)];refine wp_append_lies _ _ _ _ rfl (w.heap.size+2) 94 j3 (χ #[ι κ 0,ι κ 0,τ XN]) 3 32 Tryz.underlying60 HI3.out hz30 hz31 hz32 rfl (by omega) (σ (ς ⟨g,0,ν⟩) j cap) j (A5 (L.take j)) rfl (Dy hO7 hjl) ⟨BN,0,ν⟩ 1 1 (v3 x) rfl rfl (XP hqN) (Af [x]) (by omega) (by unfold maxLen;omega) (by omega) (by omega) _ rfl ?_;intro g8 cap8 v hO8 hgr8 hat8 hlt8;have hgl:=(hO7.lt g rfl).1;have hgb:∀ b,b<w.heap.size+2->ς b≠(σ (ς ⟨g,0,ν⟩) j cap).ownBlock:=λb hb e=>by have e3:b=g:=XM e;omega
    have hTne:ς BT≠(σ (ς ⟨g,0,ν⟩) j cap).ownBlock:=λe=>hTg (XM e);refine hK.out _ _ (B9 jH hgr8 hTne) (λjH=>?_);clear hK K hat8;try simp only [zS]
    replace p0:=B9 p0 hgr8 (hgb _ (by omega));replace p1:=B9 p1 hgr8 (hgb _ (by omega));replace hb7:=Ik hb7 hgr8 (λy hy=>hgb _ (by omega));replace hs7:=Xe hs7 hgr8.size;clear hgr8;refine tk 6 Jb (λx jS=>by go_simp<;>rfl) jH ?_
    try simp only [zS]
    refine XW (by kernel_rfl) ?_ _;obtain⟨e1_,e2_⟩:=Di (r:=x) hjl hO8;go_wp2;go_roundw
    case rel=>exact⟨k+1,g8,cap8,L.take j ++ [x],x,by omega,by go_num,by rw [e1_],HST.out,e2_,λ_=>by simp,p0,p1,hb7,by omega⟩
    case measure=>simp [XX];omega
   case' w4_c1=>
    have hqT:=η v (γ #[ι κ 0,ι κ 0,τ ⟨#[]⟩] 94);have hbT:=AE v (γ #[ι κ 0,ι κ 0,τ ⟨#[]⟩] 94);have hsT:=jH.size;go_simp;refine hK.out _ _ (AA jH (AE _ _)) (λjH=>?_);clear hK K;try simp only [zS]
    generalize v.heap.size=BT at hqT hsT ⊢;generalize v.alloc (γ #[ι κ 0,ι κ 0,τ ⟨#[]⟩] 94)=v at hqT hbT  jH ⊢;clear hbT;refine rd 5 Ot (λK hK=>?_);go_simp;refine(HV.out (ς ⟨g,j * 3,ν⟩) (cap - j) _ (AA hb (AA hb03 jH)) (HIL1.out _ (AA hb03 jH))).mono ?_;rintro e v ⟨rfl,hb5⟩;refine hK.out _ _ (AA jH hb5) (λjH=>?_);clear hK K;try simp only [zS]
    replace hqT:=AC hqT hb5;clear hb5;refine tk 6 Oo (λx jS=>by go_simp<;>rfl) jH ?_
    try simp only [zS]
    refine tk 7 On (λx jS=>by go_simp<;>rfl) jH ?_
    try simp only [zS]
    refine tk 8 Om (λx jS=>by go_simp<;>rfl) jH ?_
    try simp only [zS]
    refine rd 10 Jj (λK hK=>?_);obtain⟨s0_,s1_,s2_,sf0_,sf1_,sf2_⟩:=AX hqT;go_simp;refine hK.out _ _ (BB jH hsT _ _ _) (λjH=>?_);clear hK K s0_ s1_ s2_ sf0_ sf1_ sf2_;try simp only [zS]
    replace hqT:=EE hqT (ι κ x.o) (ι κ x.m) (τ x.s);refine tk 11 Ji (λx jS=>by go_simp<;>rfl) jH ?_
    try simp only [zS]
    refine XW (by kernel_rfl) ?_ _;generalize (((v.setCell ⟨BT,0,ν⟩ (ι κ x.o)).setCell ⟨BT,1,ν⟩ (ι κ x.m)).setCell ⟨BT,2,ν⟩ (τ x.s))=w6 at hqT jH ⊢;have hb6:=AA hb03 jH;have h6s:=hb6.size;clear jH;have q1:=AC hr1 hb6;obtain⟨l0_,l1_,l2_,lf0,lf1,lf2⟩:=AX q1;obtain⟨u0_,u1_,u2_,-⟩:=AX hqT;go_upto_region 11 with (fail)
    have p1:(((w6.setCell ⟨w.heap.size+1,0,ν⟩ (ι κ x.o)).setCell ⟨w.heap.size+1,1,ν⟩ (ι κ x.m)).setCell ⟨w.heap.size+1,2,ν⟩ (τ x.s)).heap[w.heap.size+1]?=ς (γ #[ι κ x.o,ι κ x.m,τ x.s] 94 (0,0)):=EE q1 _ _ _;have p0:(((w6.setCell ⟨w.heap.size+1,0,ν⟩ (ι κ x.o)).setCell ⟨w.heap.size+1,1,ν⟩ (ι κ x.m)).setCell ⟨w.heap.size+1,2,ν⟩ (τ x.s)).heap[w.heap.size]?=ς (γ #[ι κ 0,ι κ 0,τ ⟨#[]⟩] 94 (0,0)):=AS (AS (AS (AC hr0 hb6) (by omega)) (by omega)) (by omega);have pT:(((w6.setCell ⟨w.heap.size+1,0,ν⟩ (ι κ x.o)).setCell ⟨w.heap.size+1,1,ν⟩ (ι κ x.m)).setCell ⟨w.heap.size+1,2,ν⟩ (τ x.s)).heap[BT]?=ς (γ #[ι κ x.o,ι κ x.m,τ x.s] 94 (0,0)):=AS (AS (AS hqT (by omega)) (by omega)) (by omega);have hO7:Sv (((w6.setCell ⟨w.heap.size+1,0,ν⟩ (ι κ x.o)).setCell ⟨w.heap.size+1,1,ν⟩ (ι κ x.m)).setCell ⟨w.heap.size+1,2,ν⟩ (τ x.s)) (w.heap.size+2) g cap L:=Bm (Bm (Bm (AH hOj hb6) (by omega)) (by omega)) (by omega);have hb7:υ w.heap.size w (((w6.setCell ⟨w.heap.size+1,0,ν⟩ (ι κ x.o)).setCell ⟨w.heap.size+1,1,ν⟩ (ι κ x.m)).setCell ⟨w.heap.size+1,2,ν⟩ (τ x.s)):=BB (AA hb hb6) (by omega) _ _ _;have hs7:wr.heap.size<=(((w6.setCell ⟨w.heap.size+1,0,ν⟩ (ι κ x.o)).setCell ⟨w.heap.size+1,1,ν⟩ (ι κ x.m)).setCell ⟨w.heap.size+1,2,ν⟩ (τ x.s)).heap.size:=by rw [Xl,Xl,Xl];exact h6s
    generalize (((w6.setCell ⟨w.heap.size+1,0,ν⟩ (ι κ x.o)).setCell ⟨w.heap.size+1,1,ν⟩ (ι κ x.m)).setCell ⟨w.heap.size+1,2,ν⟩ (τ x.s))=w7 at p1 p0 pT hO7 hb7 hs7 ⊢;clear l0_ l1_ l2_ lf0 lf1 lf2 u0_ u1_ u2_ q1 hqT;have hTg:BT≠g:=by have:=(hO.lt g rfl).2;omega
    refine XO (S:=λx_=>x_.heap[BT]?=ς (γ #[ι κ x.o,ι κ x.m,τ x.s] 94 (0,0))) (by kernel_rfl) (pT) (λjH=>?_);replace p0:w7.drew.heap[w.heap.size]?=_:=p0;replace p1:w7.drew.heap[w.heap.size+1]?=_:=p1;replace hO7:Sv w7.drew (w.heap.size+2) g cap L:=hO7;replace hb7:υ w.heap.size w w7.drew:=AA hb7 (CE _);replace hs7:wr.heap.size<=w7.drew.heap.size:=hs7;generalize w7.drew=v at jH p0 p1 hO7 hb7 hs7 ⊢;refine tk 0 Jh (λx jS=>by go_simp<;>rfl) jH ?_
    try simp only [zS]
    refine tk 1 Jg (λx jS=>by go_simp<;>rfl) jH ?_
    try simp only [zS]
    refine tk 2 Jf (λx jS=>by go_simp<;>rfl) jH ?_
    try simp only [zS]
    refine tk 3 Je (λx jS=>by obtain⟨k0_,k1_,k2_,-⟩:=AX jS;go_simp<;>rfl) jH ?_
    try simp only [zS]
    refine rd 4 Jd (λK hK=>?_);have hqN:=η v (γ #[ι κ x.o,ι κ x.m,τ x.s] 94);have hbN:=AE v (γ #[ι κ x.o,ι κ x.m,τ x.s] 94);go_simp;refine hK.out _ _ (AC jH hbN) (λjH=>?_);clear hK K;try simp only [zS]
    replace p0:=AC p0 hbN;replace p1:=AC p1 hbN;replace hO7:Sv _ (w.heap.size+2) g cap L:=AH hO7 hbN;replace hb7:=AA hb7 hbN;replace hs7:=Xe hs7 hbN.size;generalize v.heap.size=BN at hqN ⊢;generalize v.alloc (γ #[ι κ x.o,ι κ x.m,τ x.s] 94)=v at hqN jH p0 p1 hO7 hb7 hs7 hbN ⊢;clear hbN;refine rd 5 Jc (λK hK=>?_);rw [if_pos (by kernel_rfl)];refine wp_append_lies _ _ _ _ rfl (w.heap.size+2) 94 j3 (χ #[ι κ 0,ι κ 0,τ XN]) 3 32 Tryz.underlying60 HI3.out hz30 hz31 hz32 rfl (by omega) (σ (ς ⟨g,0,ν⟩) j cap) j (A5 (L.take j)) rfl (Dy hO7 hjl) ⟨BN,0,ν⟩ 1 1 (v3 x) rfl rfl (XP hqN) (Af [x]) (by omega) (by unfold maxLen;omega) (by omega) (by omega) _ rfl ?_;intro g8 cap8 v hO8 hgr8 hat8 hlt8;have hgl:=(hO7.lt g rfl).1;have hgb:∀ b,b<w.heap.size+2->ς b≠(σ (ς ⟨g,0,ν⟩) j cap).ownBlock:=λb hb e=>by have e3:b=g:=XM e;omega
    have hTne:ς BT≠(σ (ς ⟨g,0,ν⟩) j cap).ownBlock:=λe=>hTg (XM e);refine hK.out _ _ (B9 jH hgr8 hTne) (λjH=>?_);clear hK K hat8;try simp only [zS]
    replace p0:=B9 p0 hgr8 (hgb _ (by omega));replace p1:=B9 p1 hgr8 (hgb _ (by omega));replace hb7:=Ik hb7 hgr8 (λy hy=>hgb _ (by omega));replace hs7:=Xe hs7 hgr8.size;clear hgr8;refine tk 6 Jb (λx jS=>by go_simp<;>rfl) jH ?_
    try simp only [zS]
    refine XW (by kernel_rfl) ?_ _;obtain⟨e1_,e2_⟩:=Di (r:=x) hjl hO8;go_wp2;go_roundw
    case rel=>exact⟨k+1,g8,cap8,L.take j ++ [x],x,by omega,by go_num,by rw [e1_],HST.out,e2_,λ_=>by simp,p0,p1,hb7,by omega⟩
    case measure=>simp [XX];omega
