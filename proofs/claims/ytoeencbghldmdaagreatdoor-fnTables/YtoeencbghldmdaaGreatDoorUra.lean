import Derived.Test.YtoeencbghldmdaaGreatDoorUm
open Go renaming Calls → VK, Value → VN, World → ο, bodyPost_ret → VE, heap_alloc_new → η, results_tmp2 → VZ, wpAnyH_done → VP, wpList_append_lies → VR, wp_region_held_drew → VH, heap_setCell_same → π, cell_of_row → ε
open Go.Ending renaming returned → ρ
open Go.IntKind renaming i64 → κ
open Go.Obj renaming cells → γ
open Go.Proofs.Tryz renaming prog → μ
open Go.RowKit renaming Below → υ, intOf → VQ
open Go.RowKit.Below renaming refl → VT
open Go.Value renaming bool → β, int → ι, slice → σ, tuple → θ, agg → χ, string → τ
open Go.World renaming news_of_block → VI, ownsRow_made → VU, size_alloc → ω, size_setCell → Ve
open List renaming length_take → VY, length_append → VJ
open Nat renaming add_zero → Vf, zero_add → VM, zero_le → VS, le_refl → VD
open Option renaming none → ν, some → ς
open Option.some renaming inj → VF
open Or renaming inl → VV, inr → Vb
namespace Go.Proofs.YtoeencbghldmdaaGreatDoor
open Go.RowKit Go.Maps Go.WideMaps
set_option maxRecDepth 20000
set_option maxHeartbeats 16000000
theorem IX{w:ο}{b off n:Nat}{q:Nat->List VN}(h1:∀ k,k<n->(q k).length=1)(h3:∀ k,k<n->∀ u,(q k)[0]?=ς u->w.cell? ⟨b,off+k,ν⟩=ς u):∀ j u,(BU q n)[j]?=ς u->w.cell? ((⟨b,off,ν⟩:Addr).add j)=ς u:=by
 refine JJ (sz:=1) (by omega) h1 (P:=λj u=>w.cell? ((⟨b,off,ν⟩:Addr).add j)=ς u) (λi hi j u hu=>?_);have hj:j=0:=by
  obtain⟨hl,-⟩:=List.getElem?_eq_some_iff.1 hu;rw [h1 i hi] at hl;omega
 subst hj;rw [Nat.mul_one,Vf,←Hs];exact h3 i hi u hu
theorem Iu{dm:Nat->Nat}{dR:Nat->Nat->Itm}{x:Rw}{k i:Nat}(h:i<k):Cb dm dR x k i=(dm i,dR i):=if_pos h
theorem Iw{dm:Nat->Nat}{dR:Nat->Nat->Itm}{x:Rw}{k:Nat}:Cb dm dR x k k=x:=by simp [Cb]
theorem Iv{dm:Nat->Nat}{dR:Nat->Nat->Itm}{x:Rw}{k i:Nat}:Cb dm dR x k (k+1+i)=(dm (k+i),dR (k+i)):=by
 unfold Cb;rw [if_neg (by omega),if_neg (by omega),show k+1+i - 1=k+i from by omega]
def PutA(bR offR dr cr:Nat)(dm:Nat->Nat)(dR:Nat->Nat->Itm)(n3:Nat)(V:Nat->Itm)(w0 w:ο)(p:Nat)(e:Ending)(w':ο):Prop:=
 υ w.heap.size w w'/\((p<dr/\BH (dR p 0).m (dR p 0).s (V 0).m (V 0).s=0/\e=ρ (θ #[σ (ς ⟨bR,offR,ν⟩) dr cr,β false]))∨(¬(p<dr/\BH (dR p 0).m (dR p 0).s (V 0).m (V 0).s=0)/\∃ g cap f,e=ρ (θ #[σ (ς ⟨g,0,ν⟩) (dr+1) cap,β true])/\RO w.heap.size (λb=>b<w0.heap.size) w' (σ (ς ⟨g,0,ν⟩) (dr+1) cap) (dr+1) (Cb dm dR (n3,V) p) f))
theorem UB(bR offR dr cr:Nat)(dm:Nat->Nat)(dR:Nat->Nat->Itm)(a3:Option Addr)(n3 c3:Nat)(V:Nat->Itm)(w0 w:ο)(hR:OL w0 (ς ⟨bR,offR,ν⟩) dr dm dR)(hV:IL w0 a3 n3 V)(hb0:υ w0.heap.size w0 w)(h3:0<n3)(h3m:n3<=1048576)(hN:∀ k,k<dr->0<dm k)(hr:dr<=1000000)(hcr:dr<=cr)(p:Nat)(hp:A0 dR (V 0).m (V 0).s dr=p) :
 VK μ 53 #[σ (ς ⟨bR,offR,ν⟩) dr cr,σ a3 n3 c3] w (PutA bR offR dr cr dm dR n3 V w0 w p):=by
 obtain⟨jr,hir,hzr0,hzr1,hzr2⟩:=info_parts Tryz.infoRow;have HIr:Hid (Tryz.prog.info? 30=ς jr):=hir;clear hir;have HP:Hid (A0 dR (V 0).m (V 0).s dr=p):=hp;have hpl:p<=dr:=by rw [←hp];exact Dc
 clear hp;have HNZ:Hid (∀ k,k<dr->0<dm k):=hN;clear hN;obtain⟨b3,off3,rfl,v0,v1,v2,-⟩:=hV 0 h3;rw [Nat.zero_mul,Vf] at v0 v1 v2;obtain⟨vo,vm,vs,hV0⟩:∃ vo vm vs,V 0=⟨vo,vm,vs⟩:=⟨_,_,_,rfl⟩;rw [hV0] at v0 v1 v2 HP;simp only at v0 v1 v2 HP
 have HV0:Hid (V 0=⟨vo,vm,vs⟩):=hV0;clear hV0;have h3i:(0:Int)<n3:=by omega
 have hBb:=hb0.size;go_enter Tryz.func53,Tryz.ntmps53
 go_wp2;go_loopw [6] (λv wr=>∃ k:Nat,k<=dr/\v=ι κ k/\A0 dR vm vs k=k/\υ w.heap.size w wr) (λv _=>dr - (VQ v).toNat)
 case atStart=>exact⟨0,VS _,rfl,rfl,VT _ _⟩
 case round=>
  obtain⟨k,hk,rfl,hpk,hb⟩:=hrel;have HPK:Hid (A0 dR vm vs k=k):=hpk;clear hpk;have hb00:=AA hb0 hb;have x0:=AB hb00 v0;have x1:=AB hb00 v1;have x2:=AB hb00 v2;have hk0:(0:Int)<=k:=by omega
  by_cases hlt:k<dr
  ·
   obtain⟨b4,off4,ai,ci,e4,d0,hI,-⟩:=hR.later hb00 k hlt;obtain⟨rfl,rfl⟩:bR=b4/\offR=off4:=by simpa using e4
   clear e4;obtain⟨bq,offq,rfl,y0,y1,y2,-⟩:=hI 0 (HNZ.out k hlt);rw [Nat.zero_mul,Vf] at y0 y1 y2;have hmk:(0:Int)<dm k:=by have:=HNZ.out k hlt;omega
   have hmk0:0<dm k:=HNZ.out k hlt;have hkd:(k:Int)<dr:=by omega
   obtain⟨ko,km,ks,hK0⟩:∃ vo vm vs,dR k 0=⟨vo,vm,vs⟩:=⟨_,_,_,rfl⟩;rw [hK0] at y0 y1 y2;simp only at y0 y1 y2
   obtain⟨cz,hcz⟩:∃ cz,BH km ks vm vs=cz:=⟨_,rfl⟩;have HCZ:Hid (BH (dR k 0).m (dR k 0).s vm vs=cz):=by show _=_;rw [hK0];exact hcz
   have hCmp:=λW=>Dr ko km ks vo vm vs W;simp only [hcz] at hCmp
   clear hcz hK0;go_upto_region 2 with (fail)
   refine VH (S:=λx=>υ wr.heap.size wr x) (by kernel_rfl) (Ar _) (λjH=>?_);refine tk 0 jH ?_;refine tk 1 jH ?_;try simp only [zS];refine tk 2 jH ?_;refine tk 3 jH ?_;try simp only [zS];refine tk 4 jH ?_;refine tk 5 jH ?_;try simp only [zS];refine tk 6 jH ?_;refine tk 7 jH ?_;try simp only [zS];refine tk 8 jH ?_ (hy:=λx jS=>by have k0:=AB jS d0;have k1:=AB jS y0;have k2:=AB jS y1;have k3:=AB jS y2;have k4:=AB jS x0;have k5:=AB jS x1;have k6:=AB jS x2;go_simp<;>rfl)
   try simp only [zS]
   refine tk 9 jH ?_;refine tk 10 jH ?_ (hy:=λx jS=>by have k0:=AB jS d0;have k1:=AB jS y0;have k2:=AB jS y1;have k3:=AB jS y2;have k4:=AB jS x0;have k5:=AB jS x1;have k6:=AB jS x2;go_simp<;>rfl)
   try simp only [zS]
   refine tk 11 jH ?_;try simp only [zS];refine tk 12 jH ?_;refine tk 13 jH ?_ (hy:=λx jS=>by have k0:=AB jS d0;have k1:=AB jS y0;have k2:=AB jS y1;have k3:=AB jS y2;have k4:=AB jS x0;have k5:=AB jS x1;have k6:=AB jS x2;go_simp<;>rfl)
   try simp only [zS]
   refine rd 14 (λK hK=>?_);go_simp;refine(hCmp _).mono ?_;rintro e w4 ⟨rfl,hb4⟩;refine hK.out _ _ (AA jH hb4) (λjH=>?_);clear hK K;try simp only [zS]
   refine tk 15 jH ?_;try simp only [zS];refine tk 16 jH ?_
   try simp only [zS]
   refine VP (by kernel_rfl) ?_ _;by_cases hc0:cz<0
   ·
    go_wp2;go_roundw
    case rel=>exact⟨k+1,by omega,by go_num,by rw [A0,if_pos ⟨HPK.out,by rw [HCZ.out];exact hc0⟩],AA hb jH⟩
    case measure=>simp [VQ];omega
   ·
    have hpk:p=k:=by rw [←HP.out];exact MZ HPK.out (by rw [HCZ.out];exact hc0) dr hlt
    subst hpk;have hHw:υ wr.heap.size wr w4:=jH;clear jH;go_upto_region 4 with (fail)
    refine VH (S:=λx=>υ wr.heap.size wr x) (by kernel_rfl) (AA hHw (Ar _)) (λjH=>?_);refine tk 0 jH ?_;refine tk 1 jH ?_;try simp only [zS];refine tk 2 jH ?_;refine tk 3 jH ?_;try simp only [zS];refine tk 4 jH ?_;refine tk 5 jH ?_;try simp only [zS];refine tk 6 jH ?_;refine tk 7 jH ?_;try simp only [zS];refine tk 8 jH ?_ (hy:=λx jS=>by have k0:=AB jS d0;have k1:=AB jS y0;have k2:=AB jS y1;have k3:=AB jS y2;have k4:=AB jS x0;have k5:=AB jS x1;have k6:=AB jS x2;go_simp<;>rfl)
    try simp only [zS]
    refine tk 9 jH ?_;refine tk 10 jH ?_ (hy:=λx jS=>by have k0:=AB jS d0;have k1:=AB jS y0;have k2:=AB jS y1;have k3:=AB jS y2;have k4:=AB jS x0;have k5:=AB jS x1;have k6:=AB jS x2;go_simp<;>rfl)
    try simp only [zS]
    refine tk 11 jH ?_;try simp only [zS];refine tk 12 jH ?_;refine tk 13 jH ?_ (hy:=λx jS=>by have k0:=AB jS d0;have k1:=AB jS y0;have k2:=AB jS y1;have k3:=AB jS y2;have k4:=AB jS x0;have k5:=AB jS x1;have k6:=AB jS x2;go_simp<;>rfl)
    try simp only [zS]
    refine rd 14 (λK hK=>?_);go_simp;refine(hCmp _).mono ?_;rintro e w9 ⟨rfl,hb9⟩;refine hK.out _ _ (AA jH hb9) (λjH=>?_);clear hK K;try simp only [zS]
    refine tk 15 jH ?_;try simp only [zS];refine tk 16 jH ?_
    try simp only [zS]
    refine VP (by kernel_rfl) ?_ _;have hbt:=AA hb jH;clear jH;by_cases hc1:cz=0
    ·
     subst hc1;have HY:Hid (BH (dR p 0).m (dR p 0).s (V 0).m (V 0).s=0):=by show _=_;rw [HV0.out];exact HCZ.out
     go_wp2;exact VE (VZ rfl _ _ _) rfl ⟨hbt,VV ⟨hlt,HY.out,rfl⟩⟩
    ·
     have HNO:Hid (¬(p<dr/\BH (dR p 0).m (dR p 0).s (V 0).m (V 0).s=0)):=λhh=>hc1 (by rw [←HCZ.out];have:=hh.2;rw [HV0.out] at this;exact this);have hc2:(cz == 0)=false:=by simpa using hc1
     obtain⟨q,hq1,hq2,hq3,hq4⟩:=hR.cells;have hVL:=hV.lb;have hbt0:=AA hb0 hbt;have hst:=hbt.size;have hkc:(p:Int)<=cr:=by omega
     have hkc2:p<=cr:=by omega
     have hkd2:(p:Int)<=dr:=by omega
     have hkd3:p<=dr:=by omega
     have HE:Hid ((w9.alloc (γ #[] 30)).ownsRow w.heap.size 30 1 (σ (ς ⟨w9.heap.size,0,ν⟩) 0 0) 0 []):=VU w9 #[] 0 hst (by unfold maxLen;omega) rfl
     ·
      have hkk2:p<cr:=by omega
      have hkk3:(p:Int)<cr:=by omega
      have hkk4:¬cr=p:=by omega
      go_wp2_with (first | (at_builtin;have _h:=hG6;refine wpList_append_own _ rfl _ _ 43 rfl w.heap.size 30 jr (σ ν 0 0) 1 24 Tryz.underlying43 HIr.out hzr0 hzr1 hzr2 rfl (by omega) (σ (ς ⟨g6,0,ν⟩) (p+1) cap6) (p+1) _ rfl hG6.own ⟨bR,offR+p,ν⟩ (dr - p) (cr - p) (BU (λi=>q (p+i)) (dr - p)) rfl (by rw [CD (sz:=1) (λi hi=>hq1 (p+i) (by omega))]) (IX (λi hi=>hq1 (p+i) (by omega)) (λi hi u hu=>by rw [Nat.add_assoc];exact AB (AA hb0 hb6) (hq3 (p+i) (by omega) u hu))) (Cx (λi hi=>hq2 (p+i) (by omega))) (by unfold maxLen;omega) (by omega) (by omega) ?_;intro v1 w7 hO7 hgr7 hnil7;obtain⟨g7,cap7,rfl⟩:=Ab hO7 (λe=>by have:=hnil7.1 e;simp at this);have hgl6:=(hG6.own.lt g6 rfl).1;have hG7:=GO.app hG6 (c:=λi=>q (p+i)) (λi hi=>hq1 (p+i) (by omega)) (λi hi=>by rw [Iv];exact((hq4 (p+i) (by omega)).later (AA hb0 hb6)).wide (λb hx _=>⟨hx,by show ς b≠ς g6;intro e;have e3:b=g6:=VF e;omega⟩)) hO7 hgr7 (λb hx=>by omega);have hb7:=JI hb6 hgr7 (λx hx=>by show ς x≠ς g6;intro e;have e3:x=g6:=VF e;omega);clear hnil7 hO7) | (at_builtin;have _h:=hG5;refine VR _ rfl _ _ _ rfl w.heap.size 30 jr (σ ν 0 0) 1 24 Tryz.underlying43 HIr.out hzr0 hzr1 hzr2 rfl (by omega) (σ (ς ⟨g5,0,ν⟩) p cap5) p _ rfl (hG5.later (AD _ _)).own ⟨w5.heap.size,0,ν⟩ 1 1 [σ (ς ⟨b3,off3,ν⟩) n3 c3] rfl rfl (VI (η w5 _)) (Bt _ rfl) (by omega) (by unfold maxLen;omega) (by omega) (by simp;omega) _ rfl ?_;intro g6 cap6 w6 hO6 hgr6 hat6 hlt6;have hgl5:=(hG5.own.lt g5 rfl).1;have hG6:=GO.push (hG5.later (AD _ _)) (c:=[σ (ς ⟨b3,off3,ν⟩) n3 c3]) rfl (by rw [Iw];exact((hVL.later (AA (AA hb0 hb5) (AD _ _))).wide (λb hx _=>⟨hx,by show ς b≠ς g5;intro e;have e3:b=g5:=VF e;omega⟩)).imp (λ_ h=>⟨_,_,rfl,h,h3m⟩)) hO6 hgr6 hat6;have hb6:=JI (AA hb5 (AD _ _)) hgr6 (λx hx=>by show ς x≠ς g5;intro e;have e3:x=g5:=VF e;omega);have hs6:=hb6.size;clear hO6) | (at_builtin;refine wpList_append_own _ rfl _ _ 43 rfl w.heap.size 30 jr (σ ν 0 0) 1 24 Tryz.underlying43 HIr.out hzr0 hzr1 hzr2 rfl (by omega) (σ (ς ⟨w9.heap.size,0,ν⟩) 0 0) 0 [] rfl HE.out ⟨bR,offR,ν⟩ p cr (BU q p) rfl (by rw [CD (sz:=1) (λi hi=>hq1 i (by omega))]) (IX (λi hi=>hq1 i (by omega)) (λi hi u hu=>AB (AA hbt0 (AD _ _)) (hq3 i (by omega) u hu))) (Cx (λi hi=>hq2 i (by omega))) (by unfold maxLen;omega) (by omega) (by have:=hbt.size;simp;omega) ?_;intro v1 w5 hO5 hgr5 hnil5;obtain⟨g5,cap5,rfl⟩:=Ab hO5 (λe=>by have:=hnil5.1 e;simp at this);have hG5:=GO.app (x:=(Cb dm dR (n3,V) p)) (D:=λb=>b<w0.heap.size) (E:=ER) (GO.nil HE.out) (c:=q) (λi hi=>hq1 i (by omega)) (λi hi=>by rw [VM,Iu hi];exact((hq4 i (by omega)).later (AA hbt0 (AD _ _))).wide (λb hx _=>⟨hx,by show ς b≠ς w9.heap.size;intro e;have e3:b=w9.heap.size:=VF e;omega⟩)) hO5 hgr5 (λb hx=>by omega);simp only [VM] at hG5;have hb5:=JI (AA hbt (AD _ _)) hgr5 (λx hx=>by show ς x≠ς w9.heap.size;intro e;have e3:x=w9.heap.size:=VF e;omega);have hs5:=hb5.size;clear hnil5 hO5))
      rw [show p+1+(dr - p)=dr+1 from by omega] at hG7
      refine VE (VZ rfl _ _ _) rfl ⟨hb7,Vb ⟨HNO.out,g7,cap7,_,?_,hG7⟩⟩;try rw [show p+1+(dr - p)=dr+1 from by omega]
      try rfl
  ·
   obtain rfl:k=dr:=by omega
   have hkd:¬(k:Int)<k:=by omega
   go_upto_region 2 with (fail)
   refine VH (S:=λx=>υ wr.heap.size wr x) (by kernel_rfl) (Ar _) (λjH=>?_);refine tk 0 jH ?_;refine tk 1 jH ?_;try simp only [zS];refine tk 2 jH ?_;refine tk 3 jH ?_;try simp only [zS];refine tk 4 jH ?_;refine A7 5 jH ?_;try simp only [zS];refine A7 6 jH ?_;refine A7 7 jH ?_;try simp only [zS];refine A7 8 jH ?_;refine A7 9 jH ?_;try simp only [zS];refine A7 10 jH ?_;refine A7 11 jH ?_;try simp only [zS];refine A7 12 jH ?_;refine A7 13 jH ?_;try simp only [zS];refine A7 14 jH ?_;refine A7 15 jH ?_;try simp only [zS];refine tk 16 jH ?_
   try simp only [zS]
   refine VP (by kernel_rfl) ?_ _;have hpk:p=k:=by rw [←HP.out,HPK.out]
   subst hpk;have hHw:υ wr.heap.size wr wr.drew:=jH;clear jH;go_upto_region 4 with (fail)
   refine VH (S:=λx=>υ wr.heap.size wr x) (by kernel_rfl) (AA hHw (Ar _)) (λjH=>?_);refine tk 0 jH ?_;refine tk 1 jH ?_;try simp only [zS];refine tk 2 jH ?_;refine tk 3 jH ?_;try simp only [zS];refine tk 4 jH ?_;refine A7 5 jH ?_;try simp only [zS];refine A7 6 jH ?_;refine A7 7 jH ?_;try simp only [zS];refine A7 8 jH ?_;refine A7 9 jH ?_;try simp only [zS];refine A7 10 jH ?_;refine A7 11 jH ?_;try simp only [zS];refine A7 12 jH ?_;refine A7 13 jH ?_;try simp only [zS];refine A7 14 jH ?_;refine A7 15 jH ?_;try simp only [zS];refine tk 16 jH ?_
   try simp only [zS]
   refine VP (by kernel_rfl) ?_ _;generalize wr.drew.drew=v at jH ⊢;have hbt:=AA hb jH;clear jH hHw;have HNO:Hid (¬(p<p/\BH (dR p 0).m (dR p 0).s (V 0).m (V 0).s=0)):=λhh=>Nat.lt_irrefl _ hh.1;obtain⟨q,hq1,hq2,hq3,hq4⟩:=hR.cells;have hVL:=hV.lb;have hbt0:=AA hb0 hbt;have hst:=hbt.size;have hkc:(p:Int)<=cr:=by omega
   have hkc2:p<=cr:=by omega
   have hkd2:(p:Int)<=p:=by omega
   have hkd3:p<=p:=by omega
   have HE:Hid ((v.alloc (γ #[] 30)).ownsRow w.heap.size 30 1 (σ (ς ⟨v.heap.size,0,ν⟩) 0 0) 0 []):=VU v #[] 0 hst (by unfold maxLen;omega) rfl;by_cases hkk:cr=p
   ·
    obtain rfl:p=cr:=hkk.symm;go_wp2_with (first | (at_builtin;have _h:=hG6;refine wpList_append_own _ rfl _ _ 43 rfl w.heap.size 30 jr (σ ν 0 0) 1 24 Tryz.underlying43 HIr.out hzr0 hzr1 hzr2 rfl (by omega) (σ (ς ⟨g6,0,ν⟩) (p+1) cap6) (p+1) _ rfl hG6.own ⟨bR,offR,ν⟩ 0 0 (BU (λi=>q (p+i)) 0) rfl (by rw [CD (sz:=1) (λi hi=>hq1 (p+i) (by omega))]) (IX (λi hi=>hq1 (p+i) (by omega)) (λi hi u hu=>absurd hi (by omega))) (Cx (λi hi=>hq2 (p+i) (by omega))) (by unfold maxLen;omega) (by omega) (by omega) ?_;intro v1 w7 hO7 hgr7 hnil7;obtain⟨g7,cap7,rfl⟩:=Ab hO7 (λe=>by have:=hnil7.1 e;simp at this);have hgl6:=(hG6.own.lt g6 rfl).1;have hG7:=GO.app hG6 (c:=λi=>q (p+i)) (λi hi=>hq1 (p+i) (by omega)) (λi hi=>by rw [Iv];exact((hq4 (p+i) (by omega)).later (AA hb0 hb6)).wide (λb hx _=>⟨hx,by show ς b≠ς g6;intro e;have e3:b=g6:=VF e;omega⟩)) hO7 hgr7 (λb hx=>by omega);have hb7:=JI hb6 hgr7 (λx hx=>by show ς x≠ς g6;intro e;have e3:x=g6:=VF e;omega);clear hnil7 hO7) | (at_builtin;have _h:=hG5;refine VR _ rfl _ _ _ rfl w.heap.size 30 jr (σ ν 0 0) 1 24 Tryz.underlying43 HIr.out hzr0 hzr1 hzr2 rfl (by omega) (σ (ς ⟨g5,0,ν⟩) p cap5) p _ rfl (hG5.later (AD _ _)).own ⟨w5.heap.size,0,ν⟩ 1 1 [σ (ς ⟨b3,off3,ν⟩) n3 c3] rfl rfl (VI (η w5 _)) (Bt _ rfl) (by omega) (by unfold maxLen;omega) (by omega) (by simp;omega) _ rfl ?_;intro g6 cap6 w6 hO6 hgr6 hat6 hlt6;have hgl5:=(hG5.own.lt g5 rfl).1;have hG6:=GO.push (hG5.later (AD _ _)) (c:=[σ (ς ⟨b3,off3,ν⟩) n3 c3]) rfl (by rw [Iw];exact((hVL.later (AA (AA hb0 hb5) (AD _ _))).wide (λb hx _=>⟨hx,by show ς b≠ς g5;intro e;have e3:b=g5:=VF e;omega⟩)).imp (λ_ h=>⟨_,_,rfl,h,h3m⟩)) hO6 hgr6 hat6;have hb6:=JI (AA hb5 (AD _ _)) hgr6 (λx hx=>by show ς x≠ς g5;intro e;have e3:x=g5:=VF e;omega);have hs6:=hb6.size;clear hO6) | (at_builtin;refine wpList_append_own _ rfl _ _ 43 rfl w.heap.size 30 jr (σ ν 0 0) 1 24 Tryz.underlying43 HIr.out hzr0 hzr1 hzr2 rfl (by omega) (σ (ς ⟨v.heap.size,0,ν⟩) 0 0) 0 [] rfl HE.out ⟨bR,offR,ν⟩ p p (BU q p) rfl (by rw [CD (sz:=1) (λi hi=>hq1 i (by omega))]) (IX (λi hi=>hq1 i (by omega)) (λi hi u hu=>AB (AA hbt0 (AD _ _)) (hq3 i (by omega) u hu))) (Cx (λi hi=>hq2 i (by omega))) (by unfold maxLen;omega) (by omega) (by have:=hbt.size;simp;omega) ?_;intro v1 w5 hO5 hgr5 hnil5;obtain⟨g5,cap5,rfl⟩:=Ab hO5 (λe=>by have:=hnil5.1 e;simp at this);have hG5:=GO.app (x:=(Cb dm dR (n3,V) p)) (D:=λb=>b<w0.heap.size) (E:=ER) (GO.nil HE.out) (c:=q) (λi hi=>hq1 i (by omega)) (λi hi=>by rw [VM,Iu hi];exact((hq4 i (by omega)).later (AA hbt0 (AD _ _))).wide (λb hx _=>⟨hx,by show ς b≠ς v.heap.size;intro e;have e3:b=v.heap.size:=VF e;omega⟩)) hO5 hgr5 (λb hx=>by omega);simp only [VM] at hG5;have hb5:=JI (AA hbt (AD _ _)) hgr5 (λx hx=>by show ς x≠ς v.heap.size;intro e;have e3:x=v.heap.size:=VF e;omega);have hs5:=hb5.size;clear hnil5 hO5))
    rw [show p+1+0=p+1 from by omega] at hG7
    refine VE (VZ rfl _ _ _) rfl ⟨hb7,Vb ⟨HNO.out,g7,cap7,_,?_,hG7⟩⟩;try rw [show p+1+0=p+1 from by omega]
    try rfl
   ·
    have hkk2:p<cr:=by omega
    have hkk3:(p:Int)<cr:=by omega
    have hkk4:¬cr=p:=by omega
    go_wp2_with (first | (at_builtin;have _h:=hG6;refine wpList_append_own _ rfl _ _ 43 rfl w.heap.size 30 jr (σ ν 0 0) 1 24 Tryz.underlying43 HIr.out hzr0 hzr1 hzr2 rfl (by omega) (σ (ς ⟨g6,0,ν⟩) (p+1) cap6) (p+1) _ rfl hG6.own ⟨bR,offR+p,ν⟩ 0 (cr - p) (BU (λi=>q (p+i)) 0) rfl (by rw [CD (sz:=1) (λi hi=>hq1 (p+i) (by omega))]) (IX (λi hi=>hq1 (p+i) (by omega)) (λi hi u hu=>absurd hi (by omega))) (Cx (λi hi=>hq2 (p+i) (by omega))) (by unfold maxLen;omega) (by omega) (by omega) ?_;intro v1 w7 hO7 hgr7 hnil7;obtain⟨g7,cap7,rfl⟩:=Ab hO7 (λe=>by have:=hnil7.1 e;simp at this);have hgl6:=(hG6.own.lt g6 rfl).1;have hG7:=GO.app hG6 (c:=λi=>q (p+i)) (λi hi=>hq1 (p+i) (by omega)) (λi hi=>by rw [Iv];exact((hq4 (p+i) (by omega)).later (AA hb0 hb6)).wide (λb hx _=>⟨hx,by show ς b≠ς g6;intro e;have e3:b=g6:=VF e;omega⟩)) hO7 hgr7 (λb hx=>by omega);have hb7:=JI hb6 hgr7 (λx hx=>by show ς x≠ς g6;intro e;have e3:x=g6:=VF e;omega);clear hnil7 hO7) | (at_builtin;have _h:=hG5;refine VR _ rfl _ _ _ rfl w.heap.size 30 jr (σ ν 0 0) 1 24 Tryz.underlying43 HIr.out hzr0 hzr1 hzr2 rfl (by omega) (σ (ς ⟨g5,0,ν⟩) p cap5) p _ rfl (hG5.later (AD _ _)).own ⟨w5.heap.size,0,ν⟩ 1 1 [σ (ς ⟨b3,off3,ν⟩) n3 c3] rfl rfl (VI (η w5 _)) (Bt _ rfl) (by omega) (by unfold maxLen;omega) (by omega) (by simp;omega) _ rfl ?_;intro g6 cap6 w6 hO6 hgr6 hat6 hlt6;have hgl5:=(hG5.own.lt g5 rfl).1;have hG6:=GO.push (hG5.later (AD _ _)) (c:=[σ (ς ⟨b3,off3,ν⟩) n3 c3]) rfl (by rw [Iw];exact((hVL.later (AA (AA hb0 hb5) (AD _ _))).wide (λb hx _=>⟨hx,by show ς b≠ς g5;intro e;have e3:b=g5:=VF e;omega⟩)).imp (λ_ h=>⟨_,_,rfl,h,h3m⟩)) hO6 hgr6 hat6;have hb6:=JI (AA hb5 (AD _ _)) hgr6 (λx hx=>by show ς x≠ς g5;intro e;have e3:x=g5:=VF e;omega);have hs6:=hb6.size;clear hO6) | (at_builtin;refine wpList_append_own _ rfl _ _ 43 rfl w.heap.size 30 jr (σ ν 0 0) 1 24 Tryz.underlying43 HIr.out hzr0 hzr1 hzr2 rfl (by omega) (σ (ς ⟨v.heap.size,0,ν⟩) 0 0) 0 [] rfl HE.out ⟨bR,offR,ν⟩ p cr (BU q p) rfl (by rw [CD (sz:=1) (λi hi=>hq1 i (by omega))]) (IX (λi hi=>hq1 i (by omega)) (λi hi u hu=>AB (AA hbt0 (AD _ _)) (hq3 i (by omega) u hu))) (Cx (λi hi=>hq2 i (by omega))) (by unfold maxLen;omega) (by omega) (by have:=hbt.size;simp;omega) ?_;intro v1 w5 hO5 hgr5 hnil5;obtain⟨g5,cap5,rfl⟩:=Ab hO5 (λe=>by have:=hnil5.1 e;simp at this);have hG5:=GO.app (x:=(Cb dm dR (n3,V) p)) (D:=λb=>b<w0.heap.size) (E:=ER) (GO.nil HE.out) (c:=q) (λi hi=>hq1 i (by omega)) (λi hi=>by rw [VM,Iu hi];exact((hq4 i (by omega)).later (AA hbt0 (AD _ _))).wide (λb hx _=>⟨hx,by show ς b≠ς v.heap.size;intro e;have e3:b=v.heap.size:=VF e;omega⟩)) hO5 hgr5 (λb hx=>by omega);simp only [VM] at hG5;have hb5:=JI (AA hbt (AD _ _)) hgr5 (λx hx=>by show ς x≠ς v.heap.size;intro e;have e3:x=v.heap.size:=VF e;omega);have hs5:=hb5.size;clear hnil5 hO5))
    rw [show p+1+0=p+1 from by omega] at hG7
    refine VE (VZ rfl _ _ _) rfl ⟨hb7,Vb ⟨HNO.out,g7,cap7,_,?_,hG7⟩⟩;try rw [show p+1+0=p+1 from by omega]
    try rfl
def OA(ds:ByteArray)(dn:Nat)(dC:Nat->Clm)(dr:Nat)(dm:Nat->Nat)(dR:Nat->Nat->Itm)(n3:Nat)(V:Nat->Itm)(p:Nat):Td:=⟨ds,dn,dC,dr+1,λi=>(Cb dm dR (n3,V) p i).1,λi=>(Cb dm dR (n3,V) p i).2⟩
def Gi(T:Nat->Td)(n:Nat)(ds:ByteArray)(dn:Nat)(dC:Nat->Clm)(dr:Nat)(dm:Nat->Nat)(dR:Nat->Nat->Itm)(n3:Nat)(V:Nat->Itm):List Td×Int:=
 if BA n3 dn V dC=false then (Ap T n,4) else if A0 dR (V 0).m (V 0).s dr<dr/\BH (dR (A0 dR (V 0).m (V 0).s dr) 0).m (dR (A0 dR (V 0).m (V 0).s dr) 0).s (V 0).m (V 0).s=0 then (Ap T n,5) else if dr=1000 then (Ap T n,6) else (DB T (OA ds dn dC dr dm dR n3 V (A0 dR (V 0).m (V 0).s dr)) n,0)
theorem NH{n n' j:Nat}{V:Nat->Itm}{C:Nat->Clm}(hj:j<n)(h:¬(V j).o=(C j).t):BA n n' V C=false:=by
 have:allN n (λj=>(V j).o == (C j).t)=false:=Am hj (by simpa using h);unfold BA;rw [this,Bool.and_false]
theorem MQ{n:Nat}{V:Nat->Itm}{C:Nat->Clm}(h:∀ j,j<n->(V j).o=(C j).t):BA n n V C=true:=by
 have:allN n (λj=>(V j).o == (C j).t)=true:=Ak (λj hj=>by simpa using h j hj);unfold BA;rw [this];simp
theorem Jl{dm:Nat->Nat}{dR:Nat->Nat->Itm}{x:Rw}{dr p:Nat}{P:Rw->Prop}(hp:p<=dr)(h:∀ k,k<dr->P (dm k,dR k))(hx:P x):∀ i,i<dr+1->P (Cb dm dR x p i):=λi hi=>by
 unfold Cb;split
 · exact h i (by omega)
 ·
  split
  · exact hx
  · exact h (i - 1) (by omega)
theorem PutA.yes{bR offR dr cr:Nat}{dm:Nat->Nat}{dR:Nat->Nat->Itm}{n3:Nat}{V:Nat->Itm}{w0 w:ο}{p:Nat}{e:Ending}{w':ο}(h:PutA bR offR dr cr dm dR n3 V w0 w p e w')(hh:p<dr/\BH (dR p 0).m (dR p 0).s (V 0).m (V 0).s=0):e=ρ (θ #[σ (ς ⟨bR,offR,ν⟩) dr cr,β false])/\υ w.heap.size w w':=by
 obtain⟨hb,⟨-,-,e⟩ | ⟨hno,-⟩⟩:=h
 · exact⟨e,hb⟩
 · exact absurd hh hno
theorem PutA.no{bR offR dr cr:Nat}{dm:Nat->Nat}{dR:Nat->Nat->Itm}{n3:Nat}{V:Nat->Itm}{w0 w:ο}{p:Nat}{e:Ending}{w':ο}(h:PutA bR offR dr cr dm dR n3 V w0 w p e w')(hh:¬(p<dr/\BH (dR p 0).m (dR p 0).s (V 0).m (V 0).s=0)):∃ g cap f,e=ρ (θ #[σ (ς ⟨g,0,ν⟩) (dr+1) cap,β true])/\RO w.heap.size (λb=>b<w0.heap.size) w' (σ (ς ⟨g,0,ν⟩) (dr+1) cap) (dr+1) (Cb dm dR (n3,V) p) f/\υ w.heap.size w w':=by
 obtain⟨hb,⟨h1,h2,-⟩ | ⟨-,g,cap,f,e,hR⟩⟩:=h
 · exact absurd ⟨h1,h2⟩ hh
 · exact⟨g,cap,f,e,hR,hb⟩
theorem PQ(a:Option Addr)(n c:Nat)(T:Nat->Td)(ds:ByteArray)(dn:Nat)(dC:Nat->Clm)(dr:Nat)(dm:Nat->Nat)(dR:Nat->Nat->Itm)(ac:Option Addr)(cc bR offR cr:Nat)(k0:Int)(tb:ByteArray)(a2:Option Addr)(n2 c2:Nat)(a3:Option Addr)(n3 c3:Nat)(col:ByteArray)(a5:Option Addr)(n5 c5:Nat)(a6:Option Addr)(n6 c6:Nat)(a7:Option Addr)(n7 c7:Nat)(V:Nat->Itm)(w:ο)(h:TL w a n T)(hC:CL w ac dn dC)(hR:OL w (ς ⟨bR,offR,ν⟩) dr dm dR)(hV:IL w a3 n3 V)(hn:n<=1000000)(hF:MM n T)(hN:Nice dn dr dm dR)(hcr:dr<=cr)(hds:ds.size<=1048576)(h3m:n3<=1048576)(hVs:∀ j,j<n3->(V j).s.size<=1048576) :
 VK μ 22 #[χ #[σ a n c],χ #[τ ds,σ ac dn cc,σ (ς ⟨bR,offR,ν⟩) dr cr],χ #[ι κ k0,τ tb,σ a2 n2 c2,σ a3 n3 c3,τ col,σ a5 n5 c5,σ a6 n6 c6,σ a7 n7 c7]] w (LS w (Gi T n ds dn dC dr dm dR n3 V).1 (Gi T n ds dn dC dr dm dR n3 V).2):=by
 have HF:Hid (MM n T):=hF;have HN:Hid (Nice dn dr dm dR):=hN;have hn0:=hN.n0;have hn1:=hN.n1;have hr1:=hN.r1;clear hF hN;have hbU:υ w.heap.size w ((((w.alloc (γ #[σ a n c] 28)).alloc (γ #[τ ds,σ ac dn cc,σ (ς ⟨bR,offR,ν⟩) dr cr] 67)).alloc (γ #[ι κ k0,τ tb,σ a2 n2 c2,σ a3 n3 c3,τ col,σ a5 n5 c5,σ a6 n6 c6,σ a7 n7 c7] 34)).alloc (γ #[σ ν 0 0] 28)):=AA (Ay _ _ _ _) (AD _ _);have hsU:((((w.alloc (γ #[σ a n c] 28)).alloc (γ #[τ ds,σ ac dn cc,σ (ς ⟨bR,offR,ν⟩) dr cr] 67)).alloc (γ #[ι κ k0,τ tb,σ a2 n2 c2,σ a3 n3 c3,τ col,σ a5 n5 c5,σ a6 n6 c6,σ a7 n7 c7] 34)).alloc (γ #[σ ν 0 0] 28)).heap.size=w.heap.size+4:=by rw [ω,ω,ω,ω]
 have hq0:((((w.alloc (γ #[σ a n c] 28)).alloc (γ #[τ ds,σ ac dn cc,σ (ς ⟨bR,offR,ν⟩) dr cr] 67)).alloc (γ #[ι κ k0,τ tb,σ a2 n2 c2,σ a3 n3 c3,τ col,σ a5 n5 c5,σ a6 n6 c6,σ a7 n7 c7] 34)).alloc (γ #[σ ν 0 0] 28)).heap[w.heap.size]?=ς (γ #[σ a n c] 28 (0,0)):=AC (AC (AC (η w _) (AD _ _)) (AD _ _)) (AD _ _);have hq1:((((w.alloc (γ #[σ a n c] 28)).alloc (γ #[τ ds,σ ac dn cc,σ (ς ⟨bR,offR,ν⟩) dr cr] 67)).alloc (γ #[ι κ k0,τ tb,σ a2 n2 c2,σ a3 n3 c3,τ col,σ a5 n5 c5,σ a6 n6 c6,σ a7 n7 c7] 34)).alloc (γ #[σ ν 0 0] 28)).heap[w.heap.size+1]?=ς (γ #[τ ds,σ ac dn cc,σ (ς ⟨bR,offR,ν⟩) dr cr] 67 (0,0)):=by
  have q:=η (w.alloc (γ #[σ a n c] 28)) (γ #[τ ds,σ ac dn cc,σ (ς ⟨bR,offR,ν⟩) dr cr] 67);rw [ω] at q;exact AC (AC q (AD _ _)) (AD _ _)
 have hq2:((((w.alloc (γ #[σ a n c] 28)).alloc (γ #[τ ds,σ ac dn cc,σ (ς ⟨bR,offR,ν⟩) dr cr] 67)).alloc (γ #[ι κ k0,τ tb,σ a2 n2 c2,σ a3 n3 c3,τ col,σ a5 n5 c5,σ a6 n6 c6,σ a7 n7 c7] 34)).alloc (γ #[σ ν 0 0] 28)).heap[w.heap.size+1+1]?=ς (γ #[ι κ k0,τ tb,σ a2 n2 c2,σ a3 n3 c3,τ col,σ a5 n5 c5,σ a6 n6 c6,σ a7 n7 c7] 34 (0,0)):=by
  have q:=η ((w.alloc (γ #[σ a n c] 28)).alloc (γ #[τ ds,σ ac dn cc,σ (ς ⟨bR,offR,ν⟩) dr cr] 67)) (γ #[ι κ k0,τ tb,σ a2 n2 c2,σ a3 n3 c3,τ col,σ a5 n5 c5,σ a6 n6 c6,σ a7 n7 c7] 34);rw [ω,ω] at q;exact AC q (AD _ _)
 have hq3:((((w.alloc (γ #[σ a n c] 28)).alloc (γ #[τ ds,σ ac dn cc,σ (ς ⟨bR,offR,ν⟩) dr cr] 67)).alloc (γ #[ι κ k0,τ tb,σ a2 n2 c2,σ a3 n3 c3,τ col,σ a5 n5 c5,σ a6 n6 c6,σ a7 n7 c7] 34)).alloc (γ #[σ ν 0 0] 28)).heap[w.heap.size+1+1+1]?=ς (γ #[σ ν 0 0] 28 (0,0)):=by
  have q:=η (((w.alloc (γ #[σ a n c] 28)).alloc (γ #[τ ds,σ ac dn cc,σ (ς ⟨bR,offR,ν⟩) dr cr] 67)).alloc (γ #[ι κ k0,τ tb,σ a2 n2 c2,σ a3 n3 c3,τ col,σ a5 n5 c5,σ a6 n6 c6,σ a7 n7 c7] 34)) (γ #[σ ν 0 0] 28);rw [ω,ω,ω] at q;exact q
 obtain⟨p0,-⟩:=AG hq0;obtain⟨p1,p2,p3,-⟩:=AL hq1;obtain⟨-,-,-,p4,-⟩:=AJ hq2;by_cases hnn:n3=dn
 rotate_left
 ·
  have n0:((n3:Int) != dn)=true:=by simp;omega
  have HA:Hid (Gi T n ds dn dC dr dm dR n3 V=(Ap T n,4)):=by show _=_;unfold Gi;rw [if_pos (by unfold BA;simp [hnn])]
  clear hnn;go_enter Tryz.func22,Tryz.ntmps22
  go_wp2_with (first | (go_at_call 21;refine(Cd a n c T _ (h.later (hbU)) (by omega) HF.out).mono ?_;rintro e w2 ⟨a8,c8,rfl,hL8,hb8⟩;have s2:=AC hq3 hb8;obtain⟨z2,f2⟩:=AG s2))
  refine VE (AE Tryz.results22 _ _ (w.heap.size+1+1+1) 28 _ (0,0) _ rfl (BW s2 _) Tryz.underlying28 rfl (by kernel_rfl)) rfl ?_;rw [HA.out];exact BS hbU hL8 hb8 (by omega) (by omega) _
 subst hnn;obtain⟨b2,off2,rfl,-⟩:=hC 0 hn0;obtain⟨b3,off3,rfl,-⟩:=hV 0 hn0;go_enter Tryz.func22,Tryz.ntmps22
 go_wp2;go_loopw [8,9,24] (λ_ _ i wr=>∃ k:Nat,k<=n3/\i=ι κ k/\(∀ j,j<k->(V j).o=(dC j).t)/\υ ((((w.alloc (γ #[σ a n c] 28)).alloc (γ #[τ ds,σ (ς ⟨b2,off2,ν⟩) n3 cc,σ (ς ⟨bR,offR,ν⟩) dr cr] 67)).alloc (γ #[ι κ k0,τ tb,σ a2 n2 c2,σ (ς ⟨b3,off3,ν⟩) n3 c3,τ col,σ a5 n5 c5,σ a6 n6 c6,σ a7 n7 c7] 34)).alloc (γ #[σ ν 0 0] 28)).heap.size ((((w.alloc (γ #[σ a n c] 28)).alloc (γ #[τ ds,σ (ς ⟨b2,off2,ν⟩) n3 cc,σ (ς ⟨bR,offR,ν⟩) dr cr] 67)).alloc (γ #[ι κ k0,τ tb,σ a2 n2 c2,σ (ς ⟨b3,off3,ν⟩) n3 c3,τ col,σ a5 n5 c5,σ a6 n6 c6,σ a7 n7 c7] 34)).alloc (γ #[σ ν 0 0] 28)) wr) (λ_ _ i _=>n3 - (VQ i).toNat)
 case atStart=>exact⟨0,VS _,rfl,λj hj=>by omega,VT _ _⟩
 case round=>
  obtain⟨k,hk,rfl,hty,hbr⟩:=hrel;have HTY:Hid (∀ j,j<k->(V j).o=(dC j).t):=hty;clear hty;have q0:=AC hq0 hbr;have q1:=AC hq1 hbr;have q2:=AC hq2 hbr;have q3:=AC hq3 hbr;obtain⟨u0,-⟩:=AG q0;obtain⟨u1,u2,u3,uf1,uf2,uf3⟩:=AL q1;obtain⟨-,-,-,u4,-⟩:=AJ q2;have hbw:=AA hbU hbr;have hsr:=hbr.size;by_cases hlt:k<n3
  ·
   obtain⟨b5,off5,e5,x0,x1,x2,-⟩:=hV.later hbw k hlt;obtain⟨rfl,rfl⟩:b3=b5/\off3=off5:=by simpa using e5
   obtain⟨b6,off6,e6,y0,y1,-⟩:=hC.later hbw k hlt;obtain⟨rfl,rfl⟩:b2=b6/\off2=off6:=by simpa using e6
   clear e5 e6;have hkn:(k:Int)<n3:=by omega
   have hk0:(0:Int)<=k:=by omega
   obtain⟨t3,ht3⟩:∃ t,(V k).o=t:=⟨_,rfl⟩;obtain⟨t4,ht4⟩:∃ t,(dC k).t=t:=⟨_,rfl⟩;rw [ht3] at x0;rw [ht4] at y1;have HE:Hid ((V k).o=t3/\(dC k).t=t4):=⟨ht3,ht4⟩;clear ht3 ht4;have w2_:=AB (AD wr (γ #[ι κ t3,ι κ (V k).m,τ (V k).s] 60)) u2;have w3_:=AB (AD wr (γ #[ι κ t3,ι κ (V k).m,τ (V k).s] 60)) y1;have w4_:=(AL (η wr (γ #[ι κ t3,ι κ (V k).m,τ (V k).s] 60))).1;go_upto_region 6 with (fail)
   refine VH (S:=λx=>υ (wr.alloc (γ #[ι κ t3,ι κ (V k).m,τ (V k).s] 60)).heap.size (wr.alloc (γ #[ι κ t3,ι κ (V k).m,τ (V k).s] 60)) x) (by kernel_rfl) (Ar _) (λjH=>?_);refine tk 0 jH ?_;refine tk 1 jH ?_ (hy:=λx jS=>by have k0:=AB jS w2_;have k1:=AB jS w3_;have k2:=AB jS w4_;go_simp<;>rfl)
   try simp only [zS]
   refine tk 2 jH ?_;try simp only [zS];refine tk 3 jH ?_ (hy:=λx jS=>by have k0:=AB jS w2_;have k1:=AB jS w3_;have k2:=AB jS w4_;go_simp<;>rfl)
   try simp only [zS]
   refine tk 4 jH ?_;refine tk 5 jH ?_;try simp only [zS];refine tk 6 jH ?_;refine tk 7 jH ?_ (hy:=λx jS=>by have k0:=AB jS w2_;have k1:=AB jS w3_;have k2:=AB jS w4_;go_simp<;>rfl)
   try simp only [zS]
   refine tk 8 jH ?_
   try simp only [zS]
   refine VP (by kernel_rfl) ?_ _;have hb5:=AA (AD wr (γ #[ι κ t3,ι κ (V k).m,τ (V k).s] 60)) jH;generalize (wr.alloc (γ #[ι κ t3,ι κ (V k).m,τ (V k).s] 60)).drew=w5 at hb5 ⊢;clear jH;by_cases ht:t3=t4
   ·
    subst ht;go_wp2;go_roundw
    case rel=>exact⟨k+1,by omega,by go_num,λj hj=>by
     by_cases e:j=k
     · rw [e,HE.out.1,HE.out.2]
     · exact HTY.out j (by omega),AA hbr hb5⟩
    case measure=>simp [VQ];omega
   ·
    have n1:(t3 != t4)=true:=by simpa using ht
    have HA:Hid (Gi T n ds n3 dC dr dm dR n3 V=(Ap T n,4)):=by show _=_;unfold Gi;rw [if_pos (NH hlt (by rw [HE.out.1,HE.out.2];exact ht))]
    clear ht;have s0:=AC q0 hb5;have s1:=AC q3 hb5;obtain⟨z0,-⟩:=AG s0;have hs5:=hb5.size;go_wp2_with (first | (go_at_call 21;refine(Cd a n c T _ (h.later (AA hbw hb5)) (by omega) HF.out).mono ?_;rintro e w2 ⟨a8,c8,rfl,hL8,hb8⟩;have s2:=AC s1 hb8;obtain⟨z2,f2⟩:=AG s2))
    refine VE (AE Tryz.results22 _ _ (w.heap.size+1+1+1) 28 _ (0,0) _ rfl (BW s2 _) Tryz.underlying28 rfl (by kernel_rfl)) rfl ?_;rw [HA.out];exact BS (AA hbw hb5) hL8 hb8 (by omega) (by omega) _
  ·
   obtain rfl:k=n3:=by omega
   have HTB:Hid (BA k k V dC=true):=MQ HTY.out;obtain⟨p,hp⟩:∃ p,A0 dR (V 0).m (V 0).s dr=p:=⟨_,rfl⟩;have HP:Hid (A0 dR (V 0).m (V 0).s dr=p):=hp;have hpl:p<=dr:=by rw [←hp];exact Dc
   clear hp;have HPut:=UB bR offR dr cr dm dR (ς ⟨b3,off3,ν⟩) k c3 V w wr hR hV hbw hn0 hn1 (λj hj=>by rw [HN.out.len j hj];exact hn0) hr1 hcr p HP.out;by_cases hit:p<dr/\BH (dR p 0).m (dR p 0).s (V 0).m (V 0).s=0
   ·
    have HIT:Hid (p<dr/\BH (dR p 0).m (dR p 0).s (V 0).m (V 0).s=0):=hit;have HA:Hid (Gi T n ds k dC dr dm dR k V=(Ap T n,5)):=by show _=_;unfold Gi;rw [HTB.out,HP.out,if_neg (by simp),if_pos hit]
    clear hit;go_wp2_with (first | (go_at_call 53;refine HPut.mono ?_;intro e w5 hA5;obtain⟨rfl,hb5⟩:=hA5.yes HIT.out;have s0:=AC q0 hb5;have s3:=AC q3 hb5;obtain⟨z0,-⟩:=AG s0) | (go_at_call 21;refine(Cd a n c T _ (h.later (AA hbw hb5)) (by omega) HF.out).mono ?_;rintro e w2 ⟨a8,c8,rfl,hL8,hb8⟩;have s2:=AC s3 hb8;obtain⟨z2,f2⟩:=AG s2))
    refine VE (AE Tryz.results22 _ _ (w.heap.size+1+1+1) 28 _ (0,0) _ rfl (BW s2 _) Tryz.underlying28 rfl (by kernel_rfl)) rfl ?_;rw [HA.out];exact BS (AA hbw hb5) hL8 hb8 (by omega) (by have:=hb5.size;omega) _
   ·
    have HIT:Hid (¬(p<dr/\BH (dR p 0).m (dR p 0).s (V 0).m (V 0).s=0)):=hit;by_cases h1000:dr=1000
    ·
     subst h1000;have HA:Hid (Gi T n ds k dC 1000 dm dR k V=(Ap T n,6)):=by show _=_;unfold Gi;rw [HTB.out,HP.out,if_neg (by simp),if_neg hit,if_pos rfl]
     clear hit;go_wp2_with (first | (go_at_call 53;refine HPut.mono ?_;intro e w5 hA5;obtain⟨g,cap,f,rfl,hRO,hb5⟩:=hA5.no HIT.out;have s0:=AC q0 hb5;have s1:=AC q1 hb5;have s3:=AC q3 hb5;obtain⟨z0,-⟩:=AG s0;obtain⟨y1,y2,y3,yf1,yf2,yf3⟩:=AL s1) | (go_at_call 21;refine(Cd a n c T _ (h.later (AA hbw hb5)) (by omega) HF.out).mono ?_;rintro e w2 ⟨a8,c8,rfl,hL8,hb8⟩;have s2:=AC s3 hb8;obtain⟨z2,f2⟩:=AG s2))
     refine VE (AE Tryz.results22 _ _ (w.heap.size+1+1+1) 28 _ (0,0) _ rfl (BW s2 _) Tryz.underlying28 rfl (by kernel_rfl)) rfl ?_;rw [HA.out];exact BS (AA hbw hb5) hL8 hb8 (by omega) (by have:=hb5.size;omega) _
    ·
     have n1000:((dr:Int) == 1000)=false:=by simp;omega
     have HA:Hid (Gi T n ds k dC dr dm dR k V=(DB T (OA ds k dC dr dm dR k V p) n,0)):=by show _=_;unfold Gi;rw [HTB.out,HP.out,if_neg (by simp),if_neg hit,if_neg h1000]
     clear hit h1000;have HAM:Hid (∀ i,i<dr+1->(Cb dm dR (k,V) p i).1=k/\∀ j,j<k->((Cb dm dR (k,V) p i).2 j).s.size<=1048576):=Jl (P:=λx=>x.1=k/\∀ j,j<k->(x.2 j).s.size<=1048576) hpl (λj hj=>⟨HN.out.len j hj,λq hq=>by have:=HN.out.txt j hj q hq;show (dR j q).s.size<=_;omega⟩) ⟨rfl,hVs⟩;have HSM:Hid (Sm3 (OA ds k dC dr dm dR k V p)):=⟨hds,⟨hn1,λj hj=>by obtain⟨_,_,_,_,_,hz⟩:=hC j hj;exact hz⟩,⟨by show dr+1<=_;omega,λj hj=>⟨by show (Cb dm dR (k,V) p j).1<=_;rw [(HAM.out j hj).1];exact hn1,λq hq=>(HAM.out j hj).2 q (by rw [←(HAM.out j hj).1];exact hq)⟩⟩⟩;have HNN:Hid (0<(OA ds k dC dr dm dR k V p).n/\∀ i,i<(OA ds k dC dr dm dR k V p).r->0<(OA ds k dC dr dm dR k V p).m i):=⟨hn0,λi hi=>by show 0<(Cb dm dR (k,V) p i).1;rw [(HAM.out i hi).1];exact hn0⟩;go_wp2_with (first | (go_at_call 52;refine(FW a n c T ds k dC (dr+1) (λi=>(Cb dm dR (k,V) p i).1) (λi=>(Cb dm dR (k,V) p i).2) (ς ⟨b2,off2,ν⟩) cc (ς ⟨g,0,ν⟩) cap (OA ds k dC dr dm dR k V p) rfl _ (h.later hbY) (hC.later hbY) hOL HSM.out hn HF.out HNN.out).mono ?_;rintro e w2 ⟨a8,c8,rfl,hL8,hb8⟩;have s2:=AC q3Y hb8;obtain⟨z2,f2⟩:=AG s2) | (go_at_call 53;refine HPut.mono ?_;intro e w5 hA5;obtain⟨g,cap,f,rfl,hRO,hb5⟩:=hA5.no HIT.out;have s0:=AC q0 hb5;have s1:=AC q1 hb5;have s3:=AC q3 hb5;obtain⟨y1,y2,y3,yf1,yf2,yf3⟩:=AL s1;have hbY:υ w.heap.size w (w5.setCell ⟨w.heap.size+1,2,ν⟩ (σ (ς ⟨g,0,ν⟩) (dr+1) cap)):=Bg (AA hbw hb5) (by omega);have hsY:(w5.setCell ⟨w.heap.size+1,2,ν⟩ (σ (ς ⟨g,0,ν⟩) (dr+1) cap)).heap.size=w5.heap.size:=Ve _ _ _;have qY:(w5.setCell ⟨w.heap.size+1,2,ν⟩ (σ (ς ⟨g,0,ν⟩) (dr+1) cap)).heap[w.heap.size+1]?=ς (γ #[τ ds,σ (ς ⟨b2,off2,ν⟩) k cc,σ (ς ⟨g,0,ν⟩) (dr+1) cap] 67 (0,0)):=π _ _ 2 _ _ _ s1;obtain⟨o1,o2,o3,-⟩:=AL qY;obtain⟨o0,-⟩:=AG (Af (i:=2) (v:=σ (ς ⟨g,0,ν⟩) (dr+1) cap) s0 (show w.heap.size≠w.heap.size+1 by omega));have q3Y:=Af (B:=w.heap.size+1) (i:=2) (v:=σ (ς ⟨g,0,ν⟩) (dr+1) cap) s3 (by omega);obtain⟨aO,cO,eO,hOL⟩:=RO.ol (hRO.set (B:=w.heap.size+1) (i:=2) (u:=σ (ς ⟨g,0,ν⟩) (dr+1) cap) (by omega) (by omega));obtain⟨rfl,rfl⟩:ς ⟨g,0,ν⟩=aO/\cap=cO:=(by simpa using eO)))
     refine VE (AE Tryz.results22 _ _ (w.heap.size+1+1+1) 28 _ (0,0) _ rfl (BW s2 _) Tryz.underlying28 rfl (by kernel_rfl)) rfl ?_;rw [HA.out];exact C2 hbY hL8 hb8 (by omega) (by have:=hb5.size;omega) 0
def Ao(x y:Rw):Int:=BH (x.2 0).m (x.2 0).s (y.2 0).m (y.2 0).s
def Ec:Nat->List Rw->List Rw->List Rw
 | 0,_,_=>[]
 | _+1,[],[]=>[]
 | s+1,x :: a,[]=>x :: Ec s a []
 | s+1,[],y :: b=>y :: Ec s [] b
 | s+1,x :: a,y :: b=>if Ao x y<=0 then x :: Ec s a (y :: b) else y :: Ec s (x :: a) b
def Hu:Nat->List Rw->List Rw
 | 0,L=>L
 | f+1,L=>if L.length<2 then L else Ec L.length (Hu f (L.take (L.length / 2))) (Hu f (L.drop (L.length / 2)))
theorem Fh:∀ (s:Nat) (a b:List Rw),a.length+b.length=s->(Ec s a b).length=s
 | 0,[],[],_=>rfl
 | 0,_ :: _,_,h=>by simp at h
 | 0,[],_ :: _,h=>by simp at h
 | s+1,[],[],h=>by simp at h
 | s+1,x :: a,[],h=>by
  simp only [List.length_cons,List.length_nil] at h
  rw [Ec,List.length_cons,Fh s a [] (by simp;omega)]
 | s+1,[],y :: b,h=>by
  simp only [List.length_cons,List.length_nil] at h
  rw [Ec,List.length_cons,Fh s [] b (by simp;omega)]
 | s+1,x :: a,y :: b,h=>by
  simp only [List.length_cons] at h
  rw [Ec];split
  · rw [List.length_cons,Fh s a (y :: b) (by simp;omega)]
  · rw [List.length_cons,Fh s (x :: a) b (by simp;omega)]
theorem Ct:∀ (f:Nat) (L:List Rw),(Hu f L).length=L.length
 | 0,L=>rfl
 | f+1,L=>by
  rw [Hu];split
  · rfl
  · rw [Fh];rw [Ct f,Ct f,VY,List.length_drop];omega
theorem Fg{P:Rw->Prop}:∀ (s:Nat) (a b:List Rw),(∀ x∈a,P x)->(∀ x∈b,P x)->∀ x∈Ec s a b,P x
 | 0,_,_,_,_,x,hx=>by simp [Ec] at hx
 | s+1,[],[],_,_,x,hx=>by simp [Ec] at hx
 | s+1,y :: a,[],ha,hb,x,hx=>by
  rw [Ec,List.mem_cons] at hx;rcases hx with rfl | hx
  · exact ha _ (by simp)
  · exact Fg s a [] (λz hz=>ha z (by simp [hz])) hb x hx
 | s+1,[],y :: b,ha,hb,x,hx=>by
  rw [Ec,List.mem_cons] at hx;rcases hx with rfl | hx
  · exact hb _ (by simp)
  · exact Fg s [] b ha (λz hz=>hb z (by simp [hz])) x hx
 | s+1,y :: a,z :: b,ha,hb,x,hx=>by
  rw [Ec] at hx;split at hx <;> rw [List.mem_cons] at hx <;> rcases hx with rfl | hx
  · exact ha _ (by simp)
  · exact Fg s a (z :: b) (λq hq=>ha q (by simp [hq])) hb x hx
  · exact hb _ (by simp)
  · exact Fg s (y :: a) b ha (λq hq=>hb q (by simp [hq])) x hx
theorem FU{P:Rw->Prop}:∀ (f:Nat) (L:List Rw),(∀ x∈L,P x)->∀ x∈Hu f L,P x
 | 0,L,h,x,hx=>h x hx
 | f+1,L,h,x,hx=>by
  rw [Hu] at hx;split at hx
  · exact h x hx
  · exact Fg _ _ _ (FU f _ (λz hz=>h z (List.mem_of_mem_take hz))) (FU f _ (λz hz=>h z (List.mem_of_mem_drop hz))) x hx
theorem Sx{A B:List Rw}{i j:Nat}(hi:i<A.length)(h:j=B.length∨(j<B.length/\Ao (A.getD i r0) (B.getD j r0)<=0)):Ec (A.length - i+(B.length - j)) (A.drop i) (B.drop j)=A.getD i r0 :: Ec (A.length - (i+1)+(B.length - j)) (A.drop (i+1)) (B.drop j):=by
 have eA:A.drop i=A.getD i r0 :: A.drop (i+1):=by
  rw [List.drop_eq_getElem_cons hi];simp [hi]
 rcases h with rfl | ⟨hj,hc⟩
 · rw [List.drop_length,eA,show A.length - i+(B.length - B.length)=(A.length - (i+1)+(B.length - B.length))+1 from by omega,Ec]
 ·
  have eB:B.drop j=B.getD j r0 :: B.drop (j+1):=by
   rw [List.drop_eq_getElem_cons hj];simp [hj]
  rw [eA,eB,show A.length - i+(B.length - j)=(A.length - (i+1)+(B.length - j))+1 from by omega,Ec,if_pos hc]
theorem Sw{A B:List Rw}{i j:Nat}(hj:j<B.length)(h:i=A.length∨(i<A.length/\¬Ao (A.getD i r0) (B.getD j r0)<=0)):Ec (A.length - i+(B.length - j)) (A.drop i) (B.drop j)=B.getD j r0 :: Ec (A.length - i+(B.length - (j+1))) (A.drop i) (B.drop (j+1)):=by
 have eB:B.drop j=B.getD j r0 :: B.drop (j+1):=by
  rw [List.drop_eq_getElem_cons hj];simp [hj]
 rcases h with rfl | ⟨hi,hc⟩
 · rw [List.drop_length,eB,show A.length - A.length+(B.length - j)=(A.length - A.length+(B.length - (j+1)))+1 from by omega,Ec]
 ·
  have eA:A.drop i=A.getD i r0 :: A.drop (i+1):=by
   rw [List.drop_eq_getElem_cons hi];simp [hi]
  rw [eA,eB,show A.length - i+(B.length - j)=(A.length - i+(B.length - (j+1)))+1 from by omega,Ec,if_neg hc]
def OD(D:Nat->Prop)(w:ο)(a:Option Addr)(A:List Rw):Prop:=
 ∀ k,k<A.length->∃ b off i c,a=ς ⟨b,off,ν⟩/\D b/\w.cell? ⟨b,off+k,ν⟩=ς (σ i (A.getD k r0).1 c)/\Liv D w (ER [σ i (A.getD k r0).1 c] (A.getD k r0))
theorem OD.later{D:Nat->Prop}{w w':ο}{a:Option Addr}{A:List Rw}(h:OD D w a A)(hb:υ w.heap.size w w'):OD D w' a A:=λk hk=>by
 obtain⟨b,off,i,c,e,hd,c0,hl⟩:=h k hk;exact⟨b,off,i,c,e,hd,AB hb c0,hl.later hb⟩
theorem OD.cut{D:Nat->Prop}{w:ο}{a:Option Addr}{A:List Rw}(h:OD D w a A):OD (λb=>D b/\b<w.heap.size) w a A:=λk hk=>by
 obtain⟨b,off,i,c,e,hd,c0,hl⟩:=h k hk;exact⟨b,off,i,c,e,⟨hd,World.block_lt_of_cell? w _ c0⟩,c0,hl.wide (λb hx hs=>⟨hx,hs⟩)⟩
theorem OD.wide{D D':Nat->Prop}{w:ο}{a:Option Addr}{A:List Rw}(h:OD D w a A)(hD:∀ b,D b->D' b):OD D' w a A:=λk hk=>by
 obtain⟨b,off,i,c,e,hd,c0,hl⟩:=h k hk;exact⟨b,off,i,c,e,hD _ hd,c0,hl.wide (λb hx _=>hD b hx)⟩
theorem OD.set{D:Nat->Prop}{w:ο}{a:Option Addr}{A:List Rw}{B i:Nat}{v:VN}(h:OD D w a A)(hB:¬D B):OD D (w.setCell ⟨B,i,ν⟩ v) a A:=λk hk=>by
 obtain⟨b,off,j,c,e,hd,c0,hl⟩:=h k hk;refine⟨b,off,j,c,e,hd,?_,hl.set hB⟩;rw [World.cell?_setCell_far _ _ _ _ (show B≠b from λe=>hB (by rw [e];exact hd))]
 exact c0
theorem OD.take{D:Nat->Prop}{w:ο}{a:Option Addr}{A:List Rw}(h:OD D w a A)(n:Nat):OD D w a (A.take n):=λk hk=>by
 rw [VY] at hk;obtain⟨b,off,i,c,e,hd,c0,hl⟩:=h k (by omega);have e2:(A.take n).getD k r0=A.getD k r0:=by simp [show k<n from by omega]
 rw [e2];exact⟨b,off,i,c,e,hd,c0,hl⟩
theorem OD.drop{D:Nat->Prop}{w:ο}{b off:Nat}{A:List Rw}(h:OD D w (ς ⟨b,off,ν⟩) A)(n:Nat):OD D w (ς ⟨b,off+n,ν⟩) (A.drop n):=λk hk=>by
 rw [List.length_drop] at hk;obtain⟨b',off',i,c,e,hd,c0,hl⟩:=h (n+k) (by omega);obtain⟨rfl,rfl⟩:b=b'/\off=off':=by simpa using e
 have e2:(A.drop n).getD k r0=A.getD (n+k) r0:=by simp
 rw [e2];exact⟨b,off+n,i,c,rfl,hd,by rw [Nat.add_assoc];exact c0,hl⟩
theorem OD.ol{D:Nat->Prop}{w:ο}{a:Option Addr}{A:List Rw}(h:OD D w a A):OL w a A.length (λi=>(A.getD i r0).1) (λi=>(A.getD i r0).2):=λk hk=>by
 obtain⟨b,off,i,c,e,-,c0,hl⟩:=h k hk;obtain⟨a2,c2,e2,hI,hs⟩:=hl.now;simp only [List.cons.injEq,and_true,Value.slice.injEq,true_and] at e2
 obtain⟨rfl,rfl⟩:=e2;exact⟨b,off,i,c,e,c0,hI,hs⟩
theorem RO.od{G:Nat}{D D':Nat->Prop}{w:ο}{v:VN}{A:List Rw}{f:Nat->List VN}(h:RO G D w v A.length (λi=>A.getD i r0) f)(h1:∀ b,D b->D' b)(h2:∀ b,G<=b->D' b):∃ a c,v=σ a A.length c/\OD D' w a A:=by
 rcases CX h.own with ⟨rfl,e0⟩ | ⟨g,cap,rfl⟩
 · refine⟨ν,0,by rw [e0],λk hk=>by omega⟩
 · refine⟨ς ⟨g,0,ν⟩,cap,rfl,λk hk=>?_⟩;have hg:=(h.own.lt g rfl).1;have hl:=h.liv k hk;obtain⟨a,c,e,hI,hs⟩:=hl.now;have:=h.cell (j:=0) hk (by omega);rw [e] at this hl;refine⟨g,0,a,c,rfl,h2 g hg,?_,hl.wide (λb hx _=>h1 b hx.1)⟩;rw [VM];simpa using this
def Rv(D:Nat->Prop)(w:ο)(A:List Rw)(e:Ending)(w':ο):Prop:=∃ a' c',e=ρ (σ a' A.length c')/\A.length<=c'/\OD D w' a' A/\υ w.heap.size w w'
theorem Jr{w:ο}{base e size n g cap:Nat}{xs:List VN}(h:w.ownsRow base e size (σ (ς ⟨g,0,ν⟩) n cap) n xs):n<=cap:=by
 rcases h.2 with ⟨e,-⟩ | ⟨g',cap',cur,e,-,-,h1,-⟩
 · simp at e
 ·
  simp only [Value.slice.injEq,Option.some.injEq,Addr.mk.injEq,and_true,true_and] at e
  omega
theorem OD.at{D:Nat->Prop}{w:ο}{a:Option Addr}{A:List Rw}(h:OD D w a A){k:Nat}(hk:k<A.length)(h0:∀ x∈A,0<x.1):∃ (b off c bq offq m:Nat) (F:Nat->Itm) (o mm:Int) (s:ByteArray),A.getD k r0=(m,F)/\F 0=⟨o,mm,s⟩/\0<m/\a=ς ⟨b,off,ν⟩/\w.cell? ⟨b,off+k,ν⟩=ς (σ (ς ⟨bq,offq,ν⟩) m c)/\w.cell? ⟨bq,offq,ν⟩=ς (ι κ o)/\w.cell? ⟨bq,offq+1,ν⟩=ς (ι κ mm)/\w.cell? ⟨bq,offq+2,ν⟩=ς (τ s)/\Liv D w (ER [σ (ς ⟨bq,offq,ν⟩) m c] (m,F)):=by
 obtain⟨b,off,i,c,e,-,c0,hl⟩:=h k hk;have hp:=h0 _ (Ae (y:=r0) hk);obtain⟨m,F,hx⟩:∃ m F,A.getD k r0=(m,F):=⟨_,_,rfl⟩;rw [hx] at c0 hl hp;obtain⟨a2,c2,e2,hI,-⟩:=hl.now;simp only [List.cons.injEq,and_true,Value.slice.injEq,true_and] at e2
 obtain⟨rfl,rfl⟩:=e2;obtain⟨bq,offq,rfl,y0,y1,y2,-⟩:=hI 0 hp;simp only [Nat.zero_mul,Vf] at y0 y1 y2
 exact⟨b,off,c,bq,offq,m,F,_,_,_,hx,rfl,hp,e,c0,y0,y1,y2,hl⟩
theorem SA(D:Nat->Prop):∀ (fu:Nat) (A:List Rw) (a:Option Addr) (c:Nat) (w:ο),A.length<=fu->A.length<=1000000->A.length<=c->OD D w a A->(∀ x∈A,0<x.1)->(∀ b,w.heap.size<=b->D b)->VK μ 54 #[σ a A.length c] w (Rv D w (Hu fu A)):=by
 intro fu;induction fu with
 | zero=>
  intro A a c w hf hm hc h h0 hD;have hl:A.length=0:=by omega
  have HA:Hid (Hu 0 A=A):=rfl;have hl2:(A.length:Int)<2:=by omega
  go_enter Tryz.func54,Tryz.ntmps54
  go_wp2;go_ret
  rw [HA.out];exact⟨a,c,rfl,hc,h,VT _ _⟩
 | succ fu ih=>
  intro A a c w hf hm hc h h0 hD;by_cases hs:A.length<2
  ·
   have HA:Hid (Hu (fu+1) A=A):=by show _=_;rw [Hu,if_pos hs]
   have hl2:(A.length:Int)<2:=by omega
   go_enter Tryz.func54,Tryz.ntmps54
   go_wp2;go_ret
   rw [HA.out];exact⟨a,c,rfl,hc,h,VT _ _⟩
  have hl2:¬(A.length:Int)<2:=by omega
  obtain⟨hh,hhe⟩:∃ hh,A.length / 2=hh:=⟨_,rfl⟩;have hh1:hh<A.length:=by omega
  have hh2:0<hh:=by omega
  obtain⟨S1,hS1⟩:∃ S1,Hu fu (A.take hh)=S1:=⟨_,rfl⟩;obtain⟨S2,hS2⟩:∃ S2,Hu fu (A.drop hh)=S2:=⟨_,rfl⟩;have l1:S1.length=hh:=by rw [←hS1,Ct,VY];omega
  have l2:S2.length=A.length - hh:=by rw [←hS2,Ct,List.length_drop]
  have HA:Hid (Hu (fu+1) A=Ec (S1.length+S2.length) S1 S2):=by
   show _=_
   rw [Hu,if_neg hs,hhe,hS1,hS2,l1,l2];congr 1
   omega
  have HM1:Hid (∀ x∈S1,0<x.1):=by rw [←hS1];exact FU _ _ (λx hx=>h0 x (List.mem_of_mem_take hx))
  have HM2:Hid (∀ x∈S2,0<x.1):=by rw [←hS2];exact FU _ _ (λx hx=>h0 x (List.mem_of_mem_drop hx))
  obtain⟨b,off,-,-,rfl,-⟩:=h 0 (by omega);have HC1:=ih (A.take hh) (ς ⟨b,off,ν⟩) c w (by rw [VY];omega) (by rw [VY];omega) (by rw [VY];omega) (h.take hh) (λx hx=>h0 x (List.mem_of_mem_take hx)) hD;rw [hS1,show (A.take hh).length=hh from by rw [VY];omega] at HC1
  have HC2:∀ w1,υ w.heap.size w w1->VK μ 54 #[σ (ς ⟨b,off+hh,ν⟩) (A.length - hh) (c - hh)] w1 (Rv D w1 S2):=λw1 hb=>by
   have:=ih (A.drop hh) (ς ⟨b,off+hh,ν⟩) (c - hh) w1 (by rw [List.length_drop];omega) (by rw [List.length_drop];omega) (by rw [List.length_drop];omega) ((h.later hb).drop hh) (λx hx=>h0 x (List.mem_of_mem_drop hx)) (λb hb'=>hD b (by have:=hb.size;omega));rwa [hS2,List.length_drop] at this
  have HC2':Hid (∀ w1,υ w.heap.size w w1->VK μ 54 #[σ (ς ⟨b,off+hh,ν⟩) (A.length - hh) (c - hh)] w1 (Rv D w1 S2)):=HC2;have HL12:Hid (S1.length=hh/\S2.length=A.length - hh):=⟨l1,l2⟩;have hl1m:S1.length<=1000000:=by omega
  have hl2m:S2.length<=1000000:=by omega
  have HHE:Hid (A.length / 2=hh):=hhe;have hq:((A.length:Int) / 2)=(hh:Int):=by omega
  clear ih h0 hS1 hS2 HC2 hs hhe l1 l2;have hhc:(hh:Int)<=c:=by omega
  have hhc3:¬c=hh:=by omega
  have hhc2:hh<=c:=by omega
  have hh0:(0:Int)<=hh:=by omega
  have hhl:(hh:Int)<=A.length:=by omega
  have hhl2:hh<=A.length:=by omega
  obtain⟨jr,hir,hzr0,hzr1,hzr2⟩:=info_parts Tryz.infoRow;have HIr:Hid (Tryz.prog.info? 30=ς jr):=hir;clear hir;go_enter Tryz.func54,Tryz.ntmps54
  go_wp2_with (first | (go_at_call 54;have _h:=hb1;refine(HC2'.out _ hb1).mono ?_;rintro e w2 ⟨a2,cc2,rfl,hcc2,hOD2,hb2⟩) | (go_at_call 54;refine HC1.mono ?_;rintro e w1 ⟨a1,cc1,rfl,hcc1,hOD1,hb1⟩))
  have hbw2:=AA hb1 hb2;have hA1:=(hOD1.later hb2).cut;have hA2:=hOD2.cut;have hsw2:=hbw2.size;clear hOD1 hOD2 _h;have hO0:(w2.alloc (γ #[] 30)).ownsRow w2.heap.size 30 1 (σ (ς ⟨w2.heap.size,0,ν⟩) 0 0) 0 []:=VU w2 #[] 0 (VD _) (by unfold maxLen;omega) rfl;go_loopw [5,6,7] (λv5 v6 v7 wr=>∃ (i j g cap:Nat) (O:List Rw) (f:Nat->List VN),i<=S1.length/\j<=S2.length/\v6=ι κ i/\v7=ι κ j/\v5=σ (ς ⟨g,0,ν⟩) O.length cap/\O.length=i+j/\O ++ Ec (S1.length - i+(S2.length - j)) (S1.drop i) (S2.drop j)=Ec (S1.length+S2.length) S1 S2/\RO w2.heap.size (λb=>D b/\b<w2.heap.size) wr (σ (ς ⟨g,0,ν⟩) O.length cap) O.length (λi=>O.getD i r0) f/\υ w2.heap.size w2 wr) (λ_ v6 v7 _=>S1.length+S2.length - ((VQ v6).toNat+(VQ v7).toNat))
  case atStart=>exact⟨0,0,w2.heap.size,0,[],λ_=>[],VS _,VS _,rfl,rfl,rfl,rfl,rfl,GO.nil hO0,AD _ _⟩
  case round=>
   obtain⟨i,j,g,cap,O,f,hi,hj,rfl,rfl,rfl,hOl,hinv,hRO,hbr⟩:=hrel;have HINV:Hid (O.length=i+j/\O ++ Ec (S1.length - i+(S2.length - j)) (S1.drop i) (S2.drop j)=Ec (S1.length+S2.length) S1 S2):=⟨hOl,hinv⟩;have hOm:O.length<=2000000:=by omega
   clear hOl hinv;have hsr:=hbr.size;have hgl:=hRO.own.lt g rfl;have hB1:=hA1.later hbr;have hB2:=hA2.later hbr;have hi0:(0:Int)<=i:=by omega
   have hj0:(0:Int)<=j:=by omega
   by_cases hjl:j<S2.length
   ·
    have hjl2:(j:Int)<S2.length:=by omega
    have hjn:((j:Int) == S2.length)=false:=by simp;omega
    obtain⟨bB,offB,cB,bqB,offqB,mB,FB,oB,mmB,sB,hxB,hFB,hm0B,rfl,e0B,y0B,y1B,y2B,hLB⟩:=hB2.at hjl HM2.out;have HXB:Hid (S2.getD j r0=(mB,FB)/\FB 0=⟨oB,mmB,sB⟩):=⟨hxB,hFB⟩;have hmB:(0:Int)<mB:=by omega
    clear hxB hFB;by_cases hil:i<S1.length
    ·
     have hil2:(i:Int)<S1.length:=by omega
     obtain⟨bA,offA,cA,bqA,offqA,mA,FA,oA,mmA,sA,hxA,hFA,hm0A,rfl,e0A,y0A,y1A,y2A,hLA⟩:=hB1.at hil HM1.out;have HXA:Hid (S1.getD i r0=(mA,FA)/\FA 0=⟨oA,mmA,sA⟩):=⟨hxA,hFA⟩;have hmA:(0:Int)<mA:=by omega
     clear hxA hFA;obtain⟨cz,hcz⟩:∃ cz,BH mmA sA mmB sB=cz:=⟨_,rfl⟩;have HCZ:Hid (Ao (S1.getD i r0) (S2.getD j r0)=cz):=by show _=_;unfold Ao;rw [HXA.out.1,HXB.out.1];show BH (FA 0).m (FA 0).s (FB 0).m (FB 0).s=cz;rw [HXA.out.2,HXB.out.2];exact hcz
     have hCmp:=λW=>Dr oA mmA sA oB mmB sB W;simp only [hcz] at hCmp
     clear hcz;go_upto_region 9 with (fail)
     refine VH (S:=λx=>υ wr.heap.size wr x) (by kernel_rfl) (Ar _) (λjH=>?_);refine tk 0 jH ?_;refine tk 1 jH ?_;try simp only [zS];refine tk 2 jH ?_;refine tk 3 jH ?_;try simp only [zS];refine tk 4 jH ?_;refine tk 5 jH ?_;try simp only [zS];refine tk 6 jH ?_;refine tk 7 jH ?_;try simp only [zS];refine tk 8 jH ?_;refine tk 9 jH ?_;try simp only [zS];refine tk 10 jH ?_;refine tk 11 jH ?_;try simp only [zS];refine tk 12 jH ?_;refine tk 13 jH ?_ (hy:=λx jS=>by have k0:=AB jS e0A;have k1:=AB jS y0A;have k2:=AB jS y1A;have k3:=AB jS y2A;have k4:=AB jS e0B;have k5:=AB jS y0B;have k6:=AB jS y1B;have k7:=AB jS y2B;go_simp<;>rfl)
     try simp only [zS]
     refine tk 14 jH ?_;try simp only [zS];refine tk 15 jH ?_ (hy:=λx jS=>by have k0:=AB jS e0A;have k1:=AB jS y0A;have k2:=AB jS y1A;have k3:=AB jS y2A;have k4:=AB jS e0B;have k5:=AB jS y0B;have k6:=AB jS y1B;have k7:=AB jS y2B;go_simp<;>rfl)
     try simp only [zS]
     refine tk 16 jH ?_;refine tk 17 jH ?_;try simp only [zS];refine tk 18 jH ?_;refine tk 19 jH ?_ (hy:=λx jS=>by have k0:=AB jS e0A;have k1:=AB jS y0A;have k2:=AB jS y1A;have k3:=AB jS y2A;have k4:=AB jS e0B;have k5:=AB jS y0B;have k6:=AB jS y1B;have k7:=AB jS y2B;go_simp<;>rfl)
     try simp only [zS]
     refine tk 20 jH ?_;try simp only [zS];refine tk 21 jH ?_ (hy:=λx jS=>by have k0:=AB jS e0A;have k1:=AB jS y0A;have k2:=AB jS y1A;have k3:=AB jS y2A;have k4:=AB jS e0B;have k5:=AB jS y0B;have k6:=AB jS y1B;have k7:=AB jS y2B;go_simp<;>rfl)
     try simp only [zS]
     refine rd 22 (λK hK=>?_);go_simp;refine(hCmp _).mono ?_;rintro e w4 ⟨rfl,hb4⟩;refine hK.out _ _ (AA jH hb4) (λjH=>?_);clear hK K;try simp only [zS]
     refine tk 23 jH ?_;refine tk 24 jH ?_;try simp only [zS];refine tk 25 jH ?_
     try simp only [zS]
     refine VP (by kernel_rfl) ?_ _;have hb4w:υ wr.heap.size wr w4:=jH;clear jH;by_cases hc0:cz<=0
     ·
      skip
      have hROt:=hRO.later hb4w;have hst:=(hb4w).size;have et:=AB hb4w e0A;go_wp2_with (first | (at_builtin;refine VR _ rfl _ _ _ rfl w2.heap.size 30 jr (σ ν 0 0) 1 24 Tryz.underlying43 HIr.out hzr0 hzr1 hzr2 rfl (by omega) (σ (ς ⟨g,0,ν⟩) O.length cap) O.length (BU f O.length) rfl (hROt.later (AD _ _)).own ⟨w4.heap.size,0,ν⟩ 1 1 [σ (ς ⟨bqA,offqA,ν⟩) mA cA] rfl rfl (VI (η w4 _)) (Bt _ rfl) (by omega) (by unfold maxLen;omega) (by omega) (by simp;omega) _ rfl ?_;intro g8 cap8 w8 hO8 hgr8 hat8 hlt8))
      have hLt:Liv (λb=>(D b/\b<w2.heap.size)/\ς b≠(σ (ς ⟨g,0,ν⟩) O.length cap).ownBlock) w4 (ER [σ (ς ⟨bqA,offqA,ν⟩) mA cA] (mA,FA)):=(hLA.later hb4w).wide (λb hx _=>⟨hx,by show ς b≠ς g;intro e2;have e3:b=g:=VF e2;omega⟩);have hP:=GO.snoc (x:=(mA,FA)) (hROt.later (AD _ _)) (c:=[σ (ς ⟨bqA,offqA,ν⟩) mA cA]) rfl (hLt.later (AD _ _)) hO8 hgr8 hat8;have hb8:=gB (AA (AA hbr hb4w) (AD _ _)) (r:=g) hgr8 hgl.1;have eA:(O ++ [(mA,FA)]).length=O.length+1:=by simp
      go_roundw
      case rel=>exact⟨i+1,j,g8,cap8,O ++ [(mA,FA)],_,by omega,by omega,by go_num,by go_num,by rw [eA],by rw [eA,HINV.out.1];omega,by
       have:=HINV.out.2;rw [Sx hil (Vb ⟨hjl,by rw [HCZ.out];exact hc0⟩),HXA.out.1] at this;rw [List.append_assoc];exact this,hP,hb8⟩
      case measure=>simp [VQ];omega
     ·
      skip
      have hROt:=hRO.later hb4w;have hst:=(hb4w).size;have et:=AB hb4w e0B;go_wp2_with (first | (at_builtin;refine VR _ rfl _ _ _ rfl w2.heap.size 30 jr (σ ν 0 0) 1 24 Tryz.underlying43 HIr.out hzr0 hzr1 hzr2 rfl (by omega) (σ (ς ⟨g,0,ν⟩) O.length cap) O.length (BU f O.length) rfl (hROt.later (AD _ _)).own ⟨w4.heap.size,0,ν⟩ 1 1 [σ (ς ⟨bqB,offqB,ν⟩) mB cB] rfl rfl (VI (η w4 _)) (Bt _ rfl) (by omega) (by unfold maxLen;omega) (by omega) (by simp;omega) _ rfl ?_;intro g8 cap8 w8 hO8 hgr8 hat8 hlt8))
      have hLt:Liv (λb=>(D b/\b<w2.heap.size)/\ς b≠(σ (ς ⟨g,0,ν⟩) O.length cap).ownBlock) w4 (ER [σ (ς ⟨bqB,offqB,ν⟩) mB cB] (mB,FB)):=(hLB.later hb4w).wide (λb hx _=>⟨hx,by show ς b≠ς g;intro e2;have e3:b=g:=VF e2;omega⟩);have hP:=GO.snoc (x:=(mB,FB)) (hROt.later (AD _ _)) (c:=[σ (ς ⟨bqB,offqB,ν⟩) mB cB]) rfl (hLt.later (AD _ _)) hO8 hgr8 hat8;have hb8:=gB (AA (AA hbr hb4w) (AD _ _)) (r:=g) hgr8 hgl.1;have eA:(O ++ [(mB,FB)]).length=O.length+1:=by simp
      go_roundw
      case rel=>exact⟨i,j+1,g8,cap8,O ++ [(mB,FB)],_,by omega,by omega,by go_num,by go_num,by rw [eA],by rw [eA,HINV.out.1];omega,by
       have:=HINV.out.2;rw [Sw hjl (Vb ⟨hil,by rw [HCZ.out];exact hc0⟩),HXB.out.1] at this;rw [List.append_assoc];exact this,hP,hb8⟩
      case measure=>simp [VQ];omega
    ·
     obtain rfl:i=S1.length:=by omega
     have hil2:¬(S1.length:Int)<S1.length:=by omega
     go_upto_region 9 with (fail)
     refine VH (S:=λx=>υ wr.heap.size wr x) (by kernel_rfl) (Ar _) (λjH=>?_);refine tk 0 jH ?_;refine tk 1 jH ?_;try simp only [zS];refine tk 2 jH ?_;refine tk 3 jH ?_;try simp only [zS];refine tk 4 jH ?_;refine tk 5 jH ?_;try simp only [zS];refine tk 6 jH ?_;refine tk 7 jH ?_;try simp only [zS];refine tk 8 jH ?_;refine tk 9 jH ?_;try simp only [zS];refine A7 10 jH ?_;refine A7 11 jH ?_;try simp only [zS];refine A7 12 jH ?_;refine A7 13 jH ?_;try simp only [zS];refine A7 14 jH ?_;refine A7 15 jH ?_;try simp only [zS];refine A7 16 jH ?_;refine A7 17 jH ?_;try simp only [zS];refine A7 18 jH ?_;refine A7 19 jH ?_;try simp only [zS];refine A7 20 jH ?_;refine A7 21 jH ?_;try simp only [zS];refine A7 22 jH ?_;refine A7 23 jH ?_;try simp only [zS];refine tk 24 jH ?_;refine tk 25 jH ?_
     try simp only [zS]
     refine VP (by kernel_rfl) ?_ _;generalize wr.drew=w4 at jH ⊢;have hb4w:υ wr.heap.size wr w4:=jH;clear jH;have hROt:=hRO.later hb4w;have hst:=(hb4w).size;have et:=AB hb4w e0B;go_wp2_with (first | (at_builtin;refine VR _ rfl _ _ _ rfl w2.heap.size 30 jr (σ ν 0 0) 1 24 Tryz.underlying43 HIr.out hzr0 hzr1 hzr2 rfl (by omega) (σ (ς ⟨g,0,ν⟩) O.length cap) O.length (BU f O.length) rfl (hROt.later (AD _ _)).own ⟨w4.heap.size,0,ν⟩ 1 1 [σ (ς ⟨bqB,offqB,ν⟩) mB cB] rfl rfl (VI (η w4 _)) (Bt _ rfl) (by omega) (by unfold maxLen;omega) (by omega) (by simp;omega) _ rfl ?_;intro g8 cap8 w8 hO8 hgr8 hat8 hlt8))
     have hLt:Liv (λb=>(D b/\b<w2.heap.size)/\ς b≠(σ (ς ⟨g,0,ν⟩) O.length cap).ownBlock) w4 (ER [σ (ς ⟨bqB,offqB,ν⟩) mB cB] (mB,FB)):=(hLB.later hb4w).wide (λb hx _=>⟨hx,by show ς b≠ς g;intro e2;have e3:b=g:=VF e2;omega⟩);have hP:=GO.snoc (x:=(mB,FB)) (hROt.later (AD _ _)) (c:=[σ (ς ⟨bqB,offqB,ν⟩) mB cB]) rfl (hLt.later (AD _ _)) hO8 hgr8 hat8;have hb8:=gB (AA (AA hbr hb4w) (AD _ _)) (r:=g) hgr8 hgl.1;have eA:(O ++ [(mB,FB)]).length=O.length+1:=by simp
     go_roundw
     case rel=>exact⟨S1.length,j+1,g8,cap8,O ++ [(mB,FB)],_,by omega,by omega,by go_num,by go_num,by rw [eA],by rw [eA,HINV.out.1];omega,by
      have:=HINV.out.2;rw [Sw hjl (VV rfl),HXB.out.1] at this;rw [List.append_assoc];exact this,hP,hb8⟩
     case measure=>simp [VQ];omega
   ·
    obtain rfl:j=S2.length:=by omega
    have hjn:((S2.length:Int) == S2.length)=true:=by simp
    by_cases hil:i<S1.length
    ·
     have hil2:(i:Int)<S1.length:=by omega
     obtain⟨bA,offA,cA,bqA,offqA,mA,FA,oA,mmA,sA,hxA,hFA,hm0A,rfl,e0A,y0A,y1A,y2A,hLA⟩:=hB1.at hil HM1.out;have HXA:Hid (S1.getD i r0=(mA,FA)):=hxA;clear hxA hFA;go_upto_region 9 with (fail)
     refine VH (S:=λx=>υ wr.heap.size wr x) (by kernel_rfl) (Ar _) (λjH=>?_);refine tk 0 jH ?_;try simp only [zS];refine tk 1 jH ?_;refine tk 2 jH ?_;try simp only [zS];refine tk 3 jH ?_;refine tk 4 jH ?_;try simp only [zS];refine A7 5 jH ?_;refine A7 6 jH ?_;try simp only [zS];refine A7 7 jH ?_;refine A7 8 jH ?_;try simp only [zS];refine A7 9 jH ?_;refine A7 10 jH ?_;try simp only [zS];refine A7 11 jH ?_;refine A7 12 jH ?_;try simp only [zS];refine A7 13 jH ?_;refine A7 14 jH ?_;try simp only [zS];refine A7 15 jH ?_;refine A7 16 jH ?_;try simp only [zS];refine A7 17 jH ?_;refine A7 18 jH ?_;try simp only [zS];refine A7 19 jH ?_;refine A7 20 jH ?_;try simp only [zS];refine A7 21 jH ?_;refine A7 22 jH ?_;try simp only [zS];refine A7 23 jH ?_;refine A7 24 jH ?_;try simp only [zS];refine tk 25 jH ?_
     try simp only [zS]
     refine VP (by kernel_rfl) ?_ _;generalize wr.drew=w4 at jH ⊢;have hb4w:υ wr.heap.size wr w4:=jH;clear jH;have hROt:=hRO.later hb4w;have hst:=(hb4w).size;have et:=AB hb4w e0A;go_wp2_with (first | (at_builtin;refine VR _ rfl _ _ _ rfl w2.heap.size 30 jr (σ ν 0 0) 1 24 Tryz.underlying43 HIr.out hzr0 hzr1 hzr2 rfl (by omega) (σ (ς ⟨g,0,ν⟩) O.length cap) O.length (BU f O.length) rfl (hROt.later (AD _ _)).own ⟨w4.heap.size,0,ν⟩ 1 1 [σ (ς ⟨bqA,offqA,ν⟩) mA cA] rfl rfl (VI (η w4 _)) (Bt _ rfl) (by omega) (by unfold maxLen;omega) (by omega) (by simp;omega) _ rfl ?_;intro g8 cap8 w8 hO8 hgr8 hat8 hlt8))
     have hLt:Liv (λb=>(D b/\b<w2.heap.size)/\ς b≠(σ (ς ⟨g,0,ν⟩) O.length cap).ownBlock) w4 (ER [σ (ς ⟨bqA,offqA,ν⟩) mA cA] (mA,FA)):=(hLA.later hb4w).wide (λb hx _=>⟨hx,by show ς b≠ς g;intro e2;have e3:b=g:=VF e2;omega⟩);have hP:=GO.snoc (x:=(mA,FA)) (hROt.later (AD _ _)) (c:=[σ (ς ⟨bqA,offqA,ν⟩) mA cA]) rfl (hLt.later (AD _ _)) hO8 hgr8 hat8;have hb8:=gB (AA (AA hbr hb4w) (AD _ _)) (r:=g) hgr8 hgl.1;have eA:(O ++ [(mA,FA)]).length=O.length+1:=by simp
     go_roundw
     case rel=>exact⟨i+1,S2.length,g8,cap8,O ++ [(mA,FA)],_,by omega,by omega,by go_num,by go_num,by rw [eA],by rw [eA,HINV.out.1];omega,by
      have:=HINV.out.2;rw [Sx hil (VV rfl),HXA.out] at this;rw [List.append_assoc];exact this,hP,hb8⟩
     case measure=>simp [VQ];omega
    ·
     obtain rfl:i=S1.length:=by omega
     have HO:Hid (O=Ec (S1.length+S2.length) S1 S2):=by
      have:=HINV.out.2;rw [Nat.sub_self,Nat.sub_self] at this;show O=_
      simpa [Ec] using this
     have hil2:¬(S1.length:Int)<S1.length:=by omega
     have hjl2:¬(S2.length:Int)<S2.length:=by omega
     obtain⟨a',c',e',hOD'⟩:=RO.od (D':=D) hRO (λb hx=>hx.1) (λb hx=>hD b (by omega));obtain⟨rfl,rfl⟩:ς ⟨g,0,ν⟩=a'/\cap=c':=by simpa using e'
     have hcp:=Jr hRO.own;go_wp2;go_ret
     rw [HA.out,←HO.out];exact⟨_,_,rfl,hcp,hOD',AA hbw2 hbr⟩
def Ck(F:Nat->Itm)(q:Nat)(v:Itm):Nat->Itm:=λj=>if j=q then v else F j
def JS(C:Nat->Clm)(n:Nat)(m:Nat->Nat)(R:Nat->Nat->Itm)(q:Nat)(E:Nat->Itm)(n5:Nat)(W:Nat->Itm)(n6:Nat):Nat->List Rw
 | 0=>[]
 | k+1=>JS C n m R q E n5 W n6 k ++ [(m k,if Bp C n (R k) W n6=true then Ck (R k) q (Bv C n (R k) E n5) else R k)]
def DY(C:Nat->Clm)(n:Nat)(R:Nat->Nat->Itm)(E:Nat->Itm)(n5:Nat)(W:Nat->Itm)(n6:Nat):Nat->Bool
 | 0=>false
 | k+1=>DY C n R E n5 W n6 k || (Bp C n (R k) W n6 && decide (200<(Bv C n (R k) E n5).s.size))
theorem Mw{C:Nat->Clm}{n:Nat}{R:Nat->Nat->Itm}{E:Nat->Itm}{n5:Nat}{W:Nat->Itm}{n6 k:Nat}(h:DY C n R E n5 W n6 k=true):∀ r,k<=r->DY C n R E n5 W n6 r=true:=by
 intro r hr;induction r with
 | zero=>
  obtain rfl:k=0:=by omega
  exact h
 | succ r ih=>
  by_cases e:k=r+1
  · subst e;exact h
  · rw [DY,ih (by omega)];rfl
theorem Fx{C:Nat->Clm}{n:Nat}{m:Nat->Nat}{R:Nat->Nat->Itm}{q:Nat}{E:Nat->Itm}{n5:Nat}{W:Nat->Itm}{n6:Nat}:∀ {k:Nat},(JS C n m R q E n5 W n6 k).length=k
 | 0=>rfl
 | k+1=>by rw [JS,VJ,Fx];rfl
def Cc(A:List Rw):Nat->Bool
 | 0=>false
 | k+1=>Cc A k || (decide (0<k) && decide (Ao (A.getD (k - 1) r0) (A.getD k r0)=0))
theorem If{A:List Rw}{k:Nat}(h:Cc A k=true):∀ r,k<=r->Cc A r=true:=by
 intro r hr;induction r with
 | zero=>
  obtain rfl:k=0:=by omega
  exact h
 | succ r ih=>
  by_cases e:k=r+1
  · subst e;exact h
  · rw [Cc,ih (by omega)];rfl
def Ke(C:Nat->Clm)(n:Nat)(q:Nat)(E:Nat->Itm)(n5:Nat)(W:Nat->Itm)(n6:Nat):Int:=
 if ¬(DA C n E n5).2=0 then (DA C n E n5).2 else if ¬(DA C n E n5).1=(C q).t then 4 else CM C n W n6
def Av(dn:Nat)(dC:Nat->Clm)(dr:Nat)(dm:Nat->Nat)(dR:Nat->Nat->Itm)(q:Nat)(E:Nat->Itm)(n5:Nat)(W:Nat->Itm)(n6:Nat):List Rw:=Hu dr (JS dC dn dm dR q E n5 W n6 dr)
def Gd(T:Nat->Td)(n:Nat)(ds:ByteArray)(dn:Nat)(dC:Nat->Clm)(dr:Nat)(dm:Nat->Nat)(dR:Nat->Nat->Itm)(col:ByteArray)(E:Nat->Itm)(n5:Nat)(W:Nat->Itm)(n6:Nat):List Td×Int:=
 match BF dC col dn with
 | none=>(Ap T n,3)
 | some q=>if ¬Ke dC dn q E n5 W n6=0 then (Ap T n,Ke dC dn q E n5 W n6) else if DY dC dn dR E n5 W n6 dr=true then (Ap T n,6)
  else if Cc (Av dn dC dr dm dR q E n5 W n6) dr=true then (Ap T n,5) else (DB T (CA ds dn dC (Av dn dC dr dm dR q E n5 W n6)) n,0)
theorem NG{C:Nat->Clm}{n q:Nat}{E:Nat->Itm}{n5:Nat}{W:Nat->Itm}{n6:Nat}(h:Ke C n q E n5 W n6=0):(DA C n E n5).2=0/\(DA C n E n5).1=(C q).t/\CM C n W n6=0:=by
 unfold Ke at h;split at h
 · rename_i h1;exact absurd h h1
 ·
  rename_i h1
  split at h
  · omega
  ·
   rename_i h2
   exact⟨by simpa using h1,by simpa using h2,h⟩
theorem Gh{w:ο}{G g cap n q:Nat}{I:Nat->Itm}{x:Itm}(h:w.ownsRow G 60 3 (σ (ς ⟨g,0,ν⟩) n cap) n (BU (λk=>v3 (I k)) n))(hs:∀ k,k<n->(I k).s.size<=1048576)(hx:x.s.size<=1048576)(hq:q<n):IL (((w.setCell ⟨g,q * 3,ν⟩ (ι κ x.o)).setCell ⟨g,q * 3+1,ν⟩ (ι κ x.m)).setCell ⟨g,q * 3+2,ν⟩ (τ x.s)) (ς ⟨g,0,ν⟩) n (Ck I q x):=by
 have hI:=EK h hs;rcases h.2 with ⟨e,-⟩ | ⟨g',cap',cur,e,-,hrow,hc,-,hsz,-⟩
 · simp at e
 ·
  obtain⟨rfl,rfl⟩:g=g'/\cap=cap':=by simpa using e
  have hr:=π _ _ (q * 3+2) _ _ (τ x.s) (π _ _ (q * 3+1) _ _ (ι κ x.m) (π _ _ (q * 3) _ _ (ι κ x.o) hrow));intro k hk;obtain⟨b,off,e2,c0,c1,c2,-⟩:=hI k hk;obtain⟨rfl,rfl⟩:g=b/\0=off:=by simpa using e2
  have hcur:∀ i v,w.cell? ⟨g,i,ν⟩=ς v->cur[i]?=ς v:=λi v hv=>by
   have:=ε w g i _ _ _ hrow;rw [this] at hv;exact hv
  rw [VM] at c0 c1 c2;have d0:=hcur _ _ c0;have d1:=hcur _ _ c1;have d2:=hcur _ _ c2;refine⟨g,0,rfl,?_,?_,?_,?_⟩;all_goals try rw [VM]
  ·
   rw [ε _ g _ _ _ _ hr];unfold Ck;by_cases e:k=q
   ·
    subst e;simp [Array.getElem?_setIfInBounds]
    omega
   ·
    rw [if_neg e];simp only [Array.getElem?_setIfInBounds]
    rw [if_neg (by omega),if_neg (by omega),if_neg (by omega)];exact d0
  ·
   rw [ε _ g _ _ _ _ hr];unfold Ck;by_cases e:k=q
   ·
    subst e;simp [Array.getElem?_setIfInBounds]
    omega
   ·
    rw [if_neg e];simp only [Array.getElem?_setIfInBounds]
    rw [if_neg (by omega),if_neg (by omega),if_neg (by omega)];exact d1
  ·
   rw [ε _ g _ _ _ _ hr];unfold Ck;by_cases e:k=q
   ·
    subst e;simp [Array.getElem?_setIfInBounds]
    omega
   ·
    rw [if_neg e];simp only [Array.getElem?_setIfInBounds]
    rw [if_neg (by omega),if_neg (by omega),if_neg (by omega)];exact d2
  ·
   unfold Ck;split
   · exact hx
   · exact hs k hk
