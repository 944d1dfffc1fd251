import Derived.Test.YtfnfdllflgmhnaaGreatDoorTj
import Derived.Test.YtfnfdllflgmhnaaGreatDoorTl
open Array renaming getElem?_eq_some_iff → XS
open ByteArray renaming empty → XN
open Go renaming Calls → XR, Value → XU, World → ο, bodyPost_ret → XL, cell_of_row → ε, frozen_of_row → ζ, heap_alloc_new → η, results_cell_row → Xd, wpAnyH_done → XW, wp_region_held_drew → XO
open Go.Ending renaming returned → ρ
open Go.Ground renaming data → φ, phase → ξ
open Go.IntKind renaming i64 → κ
open Go.Obj renaming cells → γ
open Go.Operand renaming tmp → δ
open Go.Proofs.Tryz renaming prog → μ
open Go.RowKit renaming Below → υ, intOf → XX
open Go.Value renaming agg → χ, int → ι, slice → σ, string → τ
open Go.World renaming news_of_block → XP, ownsRow_made → Xb, size_alloc → ω
open List renaming length_take → Xf, nil_append → Xk
open Nat renaming le_refl → XK, le_trans → Xe, zero_add → XT
open Option renaming none → ν, some → ς
open Or renaming inl → Xc, inr → Xi
namespace Go.Proofs.YtfnfdllflgmhnaaGreatDoor
open Go.RowKit Go.Maps Go.WideMaps
set_option maxRecDepth 20000
set_option maxHeartbeats 16000000
abbrev Ox:Oper:=⟨ς 53,.move (δ 7),60,"l5_replay.go:182",#[],ν⟩
abbrev Ow:Oper:=⟨ς 54,.move (δ 10),3,"l5_replay.go:182",#[],ν⟩
abbrev Ov:Oper:=⟨ς 55,.slice 60 (δ 53) ν (ς (δ 54)) ν,60,"l5_replay.go:182",#[⟨1,φ⟩,⟨2,φ⟩],ν⟩
abbrev Ou:Oper:=⟨ς 57,.load 94 (δ 11),94,"l5_replay.go:182",#[],ν⟩
abbrev IJ:Oper:=⟨ς 52,.buildSlice 60 0 #[],60,"l5_replay.go:182",#[],ν⟩
abbrev FT:Oper:=⟨ς 58,.buildSlice 60 1 #[(0,δ 57)],60,"l5_replay.go:182",#[⟨5,φ⟩],ν⟩
abbrev AaA:Oper:=⟨ς 56,.call ⟨.builtin .append,#[δ 52,δ 55],#[60,60]⟩,60,"l5_replay.go:182",#[⟨0,φ⟩,⟨3,φ⟩],ν⟩
abbrev FQ:Oper:=⟨ς 59,.call ⟨.builtin .append,#[δ 56,δ 58],#[60,60]⟩,60,"l5_replay.go:182",#[⟨4,φ⟩,⟨6,φ⟩,⟨4,.chain⟩],ν⟩
abbrev FP:Oper:=⟨ς 7,.assign (δ 59),60,"l5_replay.go:182",#[⟨7,φ⟩,⟨7,.chain⟩,⟨0,ξ⟩,⟨1,ξ⟩,⟨2,ξ⟩,⟨3,ξ⟩,⟨4,ξ⟩,⟨5,ξ⟩,⟨6,ξ⟩,⟨7,ξ⟩],ν⟩
theorem Eb{w:ο}{b0 b1 e size n:Nat}{v:XU}{xs:List XU}(h:w.ownsRow b1 e size v n xs)(hb:b0<=b1):w.ownsRow b0 e size v n xs:=by
 obtain⟨hl,hh⟩:=h;refine⟨hl,?_⟩;rcases hh with hh | ⟨g,cap,cur,e1,e2,e3⟩
 · exact Xc hh
 · exact Xi ⟨g,cap,cur,e1,Xe hb e2,e3⟩
theorem AX{W:ο}{R:Nat}{x0 x1 x2:XU}{t:TypeId}(h:W.heap[R]?=ς (γ #[x0,x1,x2] t (0,0))):W.cell? ⟨R,0,ν⟩=ς x0/\W.cell? ⟨R,1,ν⟩=ς x1/\W.cell? ⟨R,2,ν⟩=ς x2/\W.frozen? ⟨R,0,ν⟩=false/\W.frozen? ⟨R,1,ν⟩=false/\W.frozen? ⟨R,2,ν⟩=false:=
 ⟨ε _ _ 0 _ _ _ h,ε _ _ 1 _ _ _ h,ε _ _ 2 _ _ _ h,ζ _ _ 0 _ _ h,ζ _ _ 1 _ _ h,ζ _ _ 2 _ _ h⟩
theorem Io{W:ο}{q p i:Nat}{v0 v1 v2 u:XU}(hne:p≠q)(h:W.cell? ⟨p,i,ν⟩=ς u):(((W.setCell ⟨q,0,ν⟩ v0).setCell ⟨q,1,ν⟩ v1).setCell ⟨q,2,ν⟩ v2).cell? ⟨p,i,ν⟩=ς u:=
 (World.cell?_of_block (a:=⟨p,i,ν⟩) (((heap_setCell_other _ _ _ _ hne).trans (heap_setCell_other _ _ _ _ hne)).trans (heap_setCell_other _ _ _ _ hne))).trans h
theorem Lf(ac:Option Addr)(n cc:Nat)(C:Nat->Clm)(ar:Option Addr)(cr:Nat)(R:Nat->Itm)(a:Option Addr)(m c:Nat)(I:Nat->Itm)(w:ο)(hC:CL w ac n C)(hR:IL w ar n R)(hI:IL w a m I)(hn:n<=1048576)(hm:m<=100)(hx:ex I m=ς 1)(hk0:(ck C n I m).2=0)(hz:∀ j,j<n->(R j).s.size<=200) :
 XR μ 47 #[σ ac n cc,σ ar n cr,σ a m c] w λe w'=>e=ρ (χ #[ι κ (Cn C n R I m).o,ι κ (Cn C n R I m).m,τ (Cn C n R I m).s])/\υ w.heap.size w w':=by
 have HX:Hid (ex I m=ς 1):=hx;have HK0:Hid ((ck C n I m).2=0):=hk0;have HSZ:Hid (∀ k,k<=m->Cp (vl C n R I k)<=200 * k):=Iy hz hx;clear hx hk0 hz;obtain⟨j0,hi,hz0,hz1,hz2⟩:=info_parts Tryz.infoVal;have HI:Hid (Tryz.prog.info? 94=ς j0):=hi;clear hi;have HR0:Hid ((w.alloc (γ #[ι κ 0,ι κ 0,τ ⟨#[]⟩] 94)).heap[w.heap.size]?=ς (γ #[ι κ 0,ι κ 0,τ ⟨#[]⟩] 94 (0,0))):=η w _;have hsU:(w.alloc (γ #[ι κ 0,ι κ 0,τ ⟨#[]⟩] 94)).heap.size=w.heap.size+1:=ω _ _;have hb0:=AE (w.alloc (γ #[ι κ 0,ι κ 0,τ ⟨#[]⟩] 94)) (γ #[] 94);have hbU:=AE w (γ #[ι κ 0,ι κ 0,τ ⟨#[]⟩] 94);have hO0:Sv ((w.alloc (γ #[ι κ 0,ι κ 0,τ ⟨#[]⟩] 94)).alloc (γ #[] 94)) (w.alloc (γ #[ι κ 0,ι κ 0,τ ⟨#[]⟩] 94)).heap.size (w.alloc (γ #[ι κ 0,ι κ 0,τ ⟨#[]⟩] 94)).heap.size 0 []:=Xb (w.alloc (γ #[ι κ 0,ι κ 0,τ ⟨#[]⟩] 94)) #[] 0 (XK _) (by unfold maxLen;omega) rfl;have hCU:=hC.later hbU;have hRU:=hR.later hbU;have hIU:=hI.later hbU;go_enter Tryz.func47,Tryz.ntmps47
 go_wp2;go_loopw [7,9,10,11,15] (λv _ _ _ i wr=>∃ (k g cap:Nat) (L:List Itm),k<=m/\i=ι κ k/\v=σ (ς ⟨g,0,ν⟩) L.length cap/\vl C n R I k=L/\Sv wr (w.alloc (γ #[ι κ 0,ι κ 0,τ ⟨#[]⟩] 94)).heap.size g cap L/\υ (w.alloc (γ #[ι κ 0,ι κ 0,τ ⟨#[]⟩] 94)).heap.size (w.alloc (γ #[ι κ 0,ι κ 0,τ ⟨#[]⟩] 94)) wr) (λ_ _ _ _ i _=>m - (XX i).toNat)
 case atStart=>exact⟨0,w.heap.size+1,0,[],by omega,rfl,by first | rfl | (rw [hsU];rfl),rfl,by rw [←hsU];exact hO0,hb0⟩
 case round=>
  obtain⟨k,g,cap,L,hk,rfl,rfl,hvl,hO,hb⟩:=hrel;have HVL:Hid (vl C n R I k=L):=hvl;clear hvl;have hsw:=hb.size;by_cases hlt:k<m
  rotate_left
  ·
   obtain rfl:k=m:=by omega
   have HL:L.length=1:=by
    have:=Fh (C:=C) (n:=n) (R:=R) HX.out;rw [HVL.out] at this;omega
   obtain⟨c0,c1,c2⟩:=hO.at (j:=0) (by omega);have hRr:=AC HR0.out hb;obtain⟨r0,r1,r2,f0,f1,f2⟩:=AX hRr;have h1:(0:Int)<L.length:=by omega
   obtain⟨x0,hx0⟩:∃ x,L.getD 0 d0=x:=⟨_,rfl⟩;have e:Hid (Cn C n R I k=x0):=by show _=_;unfold Cn;rw [HVL.out,←hx0]
   rw [hx0] at c0 c1 c2;simp only [Nat.zero_mul,XT] at c0 c1 c2
   clear hx0;go_wp2;refine XL (v:=χ #[ι κ x0.o,ι κ x0.m,τ x0.s]) ?_ rfl ?_
   · exact Xd Tryz.results47 _ _ w.heap.size 94 _ (0,0) _ rfl (Cz hRr _ _ _) Tryz.underlying94 rfl (by kernel_rfl)
   · exact⟨by rw [e.out],BB (AA hbU hb) (XK _) _ _ _⟩
  obtain⟨d,hd,hok,had⟩:=F1 HX.out hlt;have hlen:((L.length:Nat):Int)=d:=by
   have:=Fh (C:=C) (n:=n) (R:=R) hd;rwa [HVL.out] at this
  have hll:=F0 hd;have hsum:Cp L<=200 * k:=by
   have:=HSZ.out k (by omega);rwa [HVL.out] at this
  have hst:vl C n R I (k+1)=L.take (L.length - DZ (I k).o) ++ [ES C n R (I k) (L.drop (L.length - DZ (I k).o))]:=by
   rw [vl,HVL.out]
  have HCOL:Hid ((I k).o=3->∃ j,Bo C (I k).s n=ς j):=λho=>Nr hlt HK0.out ho;obtain⟨b,off,rfl,c0,c1,c2,hs⟩:=hIU.later hb k hlt;obtain⟨o,mm,s,hIk⟩:∃ o mm s,I k=⟨o,mm,s⟩:=⟨_,_,_,rfl⟩;rw [hIk] at hok had hst c0 c1 c2 hs HCOL;simp only at hok had hst c0 c1 c2 hs HCOL
  have hop:=DN hok;have ha:=EP o;have hal:=CF o;obtain⟨j,hj⟩:∃ j:Nat,L.length - DZ o=j:=⟨_,rfl⟩;rw [hj] at hst;have hj1:((L.length:Nat):Int) - Aj o=(j:Nat):=by omega
  have hjl:j<=L.length:=by omega
  have hcp:=IM hO;have hjj:(j:Int)<=L.length:=by omega
  have hjc:(j:Int)<=cap:=by omega
  have hjc2:j<=cap:=by omega
  have HST:Hid (vl C n R I (k+1)=L.take j ++ [ES C n R ⟨o,mm,s⟩ (L.drop j)]):=hst;have hj100:j<=100:=by omega
  have HLE:Hid (((L.length:Nat):Int)=d/\L.length - DZ o=j/\L.length<=100/\Aj o<=((L.length - j:Nat):Int)):=⟨hlen,hj,by omega,by omega⟩;have hjn:0<=(j:Int):=by omega
  clear hst hIk hj ha had hd hok hlen;by_cases o1:o=1
  ·
   subst o1;have HT:Hid (ES C n R ⟨1,mm,s⟩ (L.drop j)=⟨1,mm,⟨#[]⟩⟩):=by show _=_;simp [ES]
   go_upto_region 14 with (go_at_call 80;refine(BO (1) _).mono ?_;rintro e w3 ⟨rfl,rfl⟩)
   have hrow:((wr.alloc (γ #[ι κ 1,ι κ mm,τ s] 135)).alloc (γ #[ι κ 1,ι κ mm,τ ⟨#[]⟩] 94)).heap[wr.heap.size+1]?=ς (γ #[ι κ (1),ι κ (mm),τ (⟨#[]⟩)] 94 (0,0)):=(by have q:=η (wr.alloc (γ #[ι κ 1,ι κ mm,τ s] 135)) (γ #[ι κ 1,ι κ mm,τ ⟨#[]⟩] 94);rw [ω] at q;exact q);have hB4:υ wr.heap.size wr ((wr.alloc (γ #[ι κ 1,ι κ mm,τ s] 135)).alloc (γ #[ι κ 1,ι κ mm,τ ⟨#[]⟩] 94)):=AA (AE _ _) (AE _ _);generalize ((wr.alloc (γ #[ι κ 1,ι κ mm,τ s] 135)).alloc (γ #[ι κ 1,ι κ mm,τ ⟨#[]⟩] 94))=w4 at hrow hB4 ⊢;have hO4:Sv w4 _ g cap L:=AH hO hB4;have hb4:=AA hb hB4;obtain⟨q0,q1,q2,-⟩:=AX hrow;clear hB4;refine XO (S:=λx=>υ w4.heap.size w4 x) (by kernel_rfl) (CE _) (λjH=>?_);generalize w4.drew=v at jH ⊢;refine tk 1 Ox (λx jS=>by go_simp<;>rfl) jH ?_
   try simp only [zS]
   refine tk 2 Ow (λx jS=>by go_simp<;>rfl) jH ?_
   try simp only [zS]
   refine tk 3 Ov (λx jS=>by go_simp<;>rfl) jH ?_
   try simp only [zS]
   refine tk 5 Ou (λx jS=>by have k0:=AB jS q0;have k1:=AB jS q1;have k2:=AB jS q2;go_simp<;>rfl) jH ?_
   try simp only [zS]
   refine wpAnyH_ready (rs:=[0,6]) (by kernel_rfl) (by simp) ?_;refine(AllReadyH.cons (o:=IJ) rfl (λK hK=>?w5_c2) (AllReadyH.cons (o:=FT) rfl (λK hK=>?w5_c1) AllReadyH.nil));case' w5_c2=>
    have hqE:=η v (γ #[] 94);have hbE:=AE v (γ #[] 94);have hsE:=jH.size;have hE:(v.alloc (γ #[] 94)).ownsRow w4.heap.size 94 3 (σ (ς ⟨v.heap.size,0,ν⟩) 0 0) 0 []:=Xb v #[] 0 jH.size (by unfold maxLen;omega) rfl;go_simp;refine hK.out _ _ (AA jH (AE _ _)) (λjH=>?_);clear hK K;try simp only [zS]
    generalize v.heap.size=BE at hqE hsE hE ⊢;generalize v.alloc (γ #[] 94)=v at hqE hbE hE jH ⊢;clear hbE;refine wpAnyH_ready (rs:=[4,6]) (by kernel_rfl) (by simp) ?_;refine(AllReadyH.cons (o:=AaA) rfl (λK hK=>?w5_c4) (AllReadyH.cons (o:=FT) rfl (λK hK=>?w5_c3) AllReadyH.nil));case' w5_c4=>
     rw [if_pos (by kernel_rfl)];refine wp_append_own _ _ _ _ rfl w4.heap.size 94 j0 (χ #[ι κ 0,ι κ 0,τ XN]) 3 32 Tryz.underlying60 HI.out hz0 hz1 hz2 rfl (by omega) (σ (ς ⟨BE,0,ν⟩) 0 0) 0 [] rfl hE ⟨g,0,ν⟩ j cap (A5 (L.take j)) rfl (by rw [BG,Xf];omega) (Sv.news (AH hO4 jH)) (Af _) (by unfold maxLen;omega) (by omega) jH.size ?_;intro v5 v hO5 hgr5 hnil5;obtain⟨g5,cap5,rfl⟩:=Ac hO5 (λe=>by have:=hnil5.1 e;simp at this);rw [XT,Xk] at hO5;have hlt5:=(hO5.lt g5 rfl).1;refine hK.out _ _ (gB jH hgr5 hsE) (λjH=>?_);clear hK K hnil5;try simp only [zS]
     try simp only [XT]
     clear hgr5 hE;refine rd 6 FT (λK hK=>?_);have hqN:=η v (γ #[ι κ (1),ι κ (mm),τ (⟨#[]⟩)] 94);have hbN:=AE v (γ #[ι κ (1),ι κ (mm),τ (⟨#[]⟩)] 94);have hsN:=jH.size;go_simp;refine hK.out _ _ (AA jH (AE _ _)) (λjH=>?_);clear hK K;try simp only [zS]
     generalize v.heap.size=BN at hqN hsN ⊢;generalize v.alloc (γ #[ι κ (1),ι κ (mm),τ (⟨#[]⟩)] 94)=v at hqN hbN  jH ⊢;replace hO5:=AH hO5 hbN;clear hbN;refine rd 7 FQ (λK hK=>?_);rw [if_pos (by kernel_rfl)];refine wp_append_lies _ _ _ _ rfl w4.heap.size 94 j0 (χ #[ι κ 0,ι κ 0,τ XN]) 3 32 Tryz.underlying60 HI.out hz0 hz1 hz2 rfl (by omega) (σ (ς ⟨g5,0,ν⟩) j cap5) j (A5 (L.take j)) rfl hO5 ⟨BN,0,ν⟩ 1 1 (v3 ⟨1,mm,⟨#[]⟩⟩) rfl rfl (XP hqN) (Af [⟨1,mm,⟨#[]⟩⟩]) (by omega) (by unfold maxLen;omega) (by omega) jH.size _ rfl ?_;intro g6 cap6 v hO6 hgr6 hat6 hlt6;refine hK.out _ _ (gB jH hgr6 hlt5) (λjH=>?_);clear hK K hgr6 hat6;try simp only [zS]
     refine tk 8 FP (λx jS=>by go_simp<;>rfl) jH ?_
     try simp only [zS]
     refine XW (by kernel_rfl) ?_ _
    case' w5_c3=>
     have hqN:=η v (γ #[ι κ (1),ι κ (mm),τ (⟨#[]⟩)] 94);have hbN:=AE v (γ #[ι κ (1),ι κ (mm),τ (⟨#[]⟩)] 94);have hsN:=jH.size;go_simp;refine hK.out _ _ (AA jH (AE _ _)) (λjH=>?_);clear hK K;try simp only [zS]
     have hnEN:BE≠v.heap.size:=Nat.ne_of_lt (XS.1 hqE).1;generalize v.heap.size=BN at hqN hsN hnEN ⊢;generalize v.alloc (γ #[ι κ (1),ι κ (mm),τ (⟨#[]⟩)] 94)=v at hqN hbN  jH ⊢;replace hE:=AH hE hbN;clear hbN;refine rd 4 AaA (λK hK=>?_);rw [if_pos (by kernel_rfl)];refine wp_append_own _ _ _ _ rfl w4.heap.size 94 j0 (χ #[ι κ 0,ι κ 0,τ XN]) 3 32 Tryz.underlying60 HI.out hz0 hz1 hz2 rfl (by omega) (σ (ς ⟨BE,0,ν⟩) 0 0) 0 [] rfl hE ⟨g,0,ν⟩ j cap (A5 (L.take j)) rfl (by rw [BG,Xf];omega) (Sv.news (AH hO4 jH)) (Af _) (by unfold maxLen;omega) (by omega) jH.size ?_;intro v5 v hO5 hgr5 hnil5;obtain⟨g5,cap5,rfl⟩:=Ac hO5 (λe=>by have:=hnil5.1 e;simp at this);rw [XT,Xk] at hO5;have hlt5:=(hO5.lt g5 rfl).1;refine hK.out _ _ (gB jH hgr5 hsE) (λjH=>?_);clear hK K hnil5;try simp only [zS]
     try simp only [XT]
     replace hqN:=GH hqN hgr5 hnEN.symm;clear hgr5 hE;refine rd 7 FQ (λK hK=>?_);rw [if_pos (by kernel_rfl)];refine wp_append_lies _ _ _ _ rfl w4.heap.size 94 j0 (χ #[ι κ 0,ι κ 0,τ XN]) 3 32 Tryz.underlying60 HI.out hz0 hz1 hz2 rfl (by omega) (σ (ς ⟨g5,0,ν⟩) j cap5) j (A5 (L.take j)) rfl hO5 ⟨BN,0,ν⟩ 1 1 (v3 ⟨1,mm,⟨#[]⟩⟩) rfl rfl (XP hqN) (Af [⟨1,mm,⟨#[]⟩⟩]) (by omega) (by unfold maxLen;omega) (by omega) jH.size _ rfl ?_;intro g6 cap6 v hO6 hgr6 hat6 hlt6;refine hK.out _ _ (gB jH hgr6 hlt5) (λjH=>?_);clear hK K hgr6 hat6;try simp only [zS]
     refine tk 8 FP (λx jS=>by go_simp<;>rfl) jH ?_
     try simp only [zS]
     refine XW (by kernel_rfl) ?_ _
   case' w5_c1=>
    have hqN:=η v (γ #[ι κ (1),ι κ (mm),τ (⟨#[]⟩)] 94);have hbN:=AE v (γ #[ι κ (1),ι κ (mm),τ (⟨#[]⟩)] 94);have hsN:=jH.size;go_simp;refine hK.out _ _ (AA jH (AE _ _)) (λjH=>?_);clear hK K;try simp only [zS]
    generalize v.heap.size=BN at hqN hsN ⊢;generalize v.alloc (γ #[ι κ (1),ι κ (mm),τ (⟨#[]⟩)] 94)=v at hqN hbN  jH ⊢;clear hbN;refine rd 0 IJ (λK hK=>?_);have hqE:=η v (γ #[] 94);have hbE:=AE v (γ #[] 94);have hsE:=jH.size;have hE:(v.alloc (γ #[] 94)).ownsRow w4.heap.size 94 3 (σ (ς ⟨v.heap.size,0,ν⟩) 0 0) 0 []:=Xb v #[] 0 jH.size (by unfold maxLen;omega) rfl;go_simp;refine hK.out _ _ (AA jH (AE _ _)) (λjH=>?_);clear hK K;try simp only [zS]
    have hnNE:BN≠v.heap.size:=Nat.ne_of_lt (XS.1 hqN).1;generalize v.heap.size=BE at hqE hsE hE hnNE ⊢;generalize v.alloc (γ #[] 94)=v at hqE hbE hE jH ⊢;replace hqN:=AC hqN hbE;clear hbE;refine rd 4 AaA (λK hK=>?_);rw [if_pos (by kernel_rfl)];refine wp_append_own _ _ _ _ rfl w4.heap.size 94 j0 (χ #[ι κ 0,ι κ 0,τ XN]) 3 32 Tryz.underlying60 HI.out hz0 hz1 hz2 rfl (by omega) (σ (ς ⟨BE,0,ν⟩) 0 0) 0 [] rfl hE ⟨g,0,ν⟩ j cap (A5 (L.take j)) rfl (by rw [BG,Xf];omega) (Sv.news (AH hO4 jH)) (Af _) (by unfold maxLen;omega) (by omega) jH.size ?_;intro v5 v hO5 hgr5 hnil5;obtain⟨g5,cap5,rfl⟩:=Ac hO5 (λe=>by have:=hnil5.1 e;simp at this);rw [XT,Xk] at hO5;have hlt5:=(hO5.lt g5 rfl).1;refine hK.out _ _ (gB jH hgr5 hsE) (λjH=>?_);clear hK K hnil5;try simp only [zS]
    try simp only [XT]
    replace hqN:=GH hqN hgr5 hnNE;clear hgr5 hE;refine rd 7 FQ (λK hK=>?_);rw [if_pos (by kernel_rfl)];refine wp_append_lies _ _ _ _ rfl w4.heap.size 94 j0 (χ #[ι κ 0,ι κ 0,τ XN]) 3 32 Tryz.underlying60 HI.out hz0 hz1 hz2 rfl (by omega) (σ (ς ⟨g5,0,ν⟩) j cap5) j (A5 (L.take j)) rfl hO5 ⟨BN,0,ν⟩ 1 1 (v3 ⟨1,mm,⟨#[]⟩⟩) rfl rfl (XP hqN) (Af [⟨1,mm,⟨#[]⟩⟩]) (by omega) (by unfold maxLen;omega) (by omega) jH.size _ rfl ?_;intro g6 cap6 v hO6 hgr6 hat6 hlt6;refine hK.out _ _ (gB jH hgr6 hlt5) (λjH=>?_);clear hK K hgr6 hat6;try simp only [zS]
    refine tk 8 FP (λx jS=>by go_simp<;>rfl) jH ?_
    try simp only [zS]
    refine XW (by kernel_rfl) ?_ _
   all_goals
    obtain⟨q1,q2⟩:=Di (r:=⟨1,mm,⟨#[]⟩⟩) hjl (Eb hO6 hb4.size);have hb6:=AA hb4 jH;go_wp2;go_roundw
    case rel=>exact⟨k+1,g6,cap6,L.take j ++ [⟨1,mm,⟨#[]⟩⟩],by omega,by go_num,by rw [q1],by rw [HST.out,HT.out],q2,hb6⟩
    case measure=>simp [XX];omega
  by_cases o2:o=2
  ·
   subst o2;have HT:Hid (ES C n R ⟨2,mm,s⟩ (L.drop j)=⟨2,0,s⟩):=by show _=_;simp [ES]
   go_upto_region 14 with (go_at_call 80;refine(BO (2) _).mono ?_;rintro e w3 ⟨rfl,rfl⟩)
   have hrow:((wr.alloc (γ #[ι κ 2,ι κ mm,τ s] 135)).alloc (γ #[ι κ 2,ι κ 0,τ s] 94)).heap[wr.heap.size+1]?=ς (γ #[ι κ (2),ι κ (0),τ (s)] 94 (0,0)):=(by have q:=η (wr.alloc (γ #[ι κ 2,ι κ mm,τ s] 135)) (γ #[ι κ 2,ι κ 0,τ s] 94);rw [ω] at q;exact q);have hB4:υ wr.heap.size wr ((wr.alloc (γ #[ι κ 2,ι κ mm,τ s] 135)).alloc (γ #[ι κ 2,ι κ 0,τ s] 94)):=AA (AE _ _) (AE _ _);generalize ((wr.alloc (γ #[ι κ 2,ι κ mm,τ s] 135)).alloc (γ #[ι κ 2,ι κ 0,τ s] 94))=w4 at hrow hB4 ⊢;have hO4:Sv w4 _ g cap L:=AH hO hB4;have hb4:=AA hb hB4;obtain⟨q0,q1,q2,-⟩:=AX hrow;clear hB4;refine XO (S:=λx=>υ w4.heap.size w4 x) (by kernel_rfl) (CE _) (λjH=>?_);generalize w4.drew=v at jH ⊢;refine tk 1 Ox (λx jS=>by go_simp<;>rfl) jH ?_
   try simp only [zS]
   refine tk 2 Ow (λx jS=>by go_simp<;>rfl) jH ?_
   try simp only [zS]
   refine tk 3 Ov (λx jS=>by go_simp<;>rfl) jH ?_
   try simp only [zS]
   refine tk 5 Ou (λx jS=>by have k0:=AB jS q0;have k1:=AB jS q1;have k2:=AB jS q2;go_simp<;>rfl) jH ?_
   try simp only [zS]
   refine wpAnyH_ready (rs:=[0,6]) (by kernel_rfl) (by simp) ?_;refine(AllReadyH.cons (o:=IJ) rfl (λK hK=>?w6_c2) (AllReadyH.cons (o:=FT) rfl (λK hK=>?w6_c1) AllReadyH.nil));case' w6_c2=>
    have hqE:=η v (γ #[] 94);have hbE:=AE v (γ #[] 94);have hsE:=jH.size;have hE:(v.alloc (γ #[] 94)).ownsRow w4.heap.size 94 3 (σ (ς ⟨v.heap.size,0,ν⟩) 0 0) 0 []:=Xb v #[] 0 jH.size (by unfold maxLen;omega) rfl;go_simp;refine hK.out _ _ (AA jH (AE _ _)) (λjH=>?_);clear hK K;try simp only [zS]
    generalize v.heap.size=BE at hqE hsE hE ⊢;generalize v.alloc (γ #[] 94)=v at hqE hbE hE jH ⊢;clear hbE;refine wpAnyH_ready (rs:=[4,6]) (by kernel_rfl) (by simp) ?_;refine(AllReadyH.cons (o:=AaA) rfl (λK hK=>?w6_c4) (AllReadyH.cons (o:=FT) rfl (λK hK=>?w6_c3) AllReadyH.nil));case' w6_c4=>
     rw [if_pos (by kernel_rfl)];refine wp_append_own _ _ _ _ rfl w4.heap.size 94 j0 (χ #[ι κ 0,ι κ 0,τ XN]) 3 32 Tryz.underlying60 HI.out hz0 hz1 hz2 rfl (by omega) (σ (ς ⟨BE,0,ν⟩) 0 0) 0 [] rfl hE ⟨g,0,ν⟩ j cap (A5 (L.take j)) rfl (by rw [BG,Xf];omega) (Sv.news (AH hO4 jH)) (Af _) (by unfold maxLen;omega) (by omega) jH.size ?_;intro v5 v hO5 hgr5 hnil5;obtain⟨g5,cap5,rfl⟩:=Ac hO5 (λe=>by have:=hnil5.1 e;simp at this);rw [XT,Xk] at hO5;have hlt5:=(hO5.lt g5 rfl).1;refine hK.out _ _ (gB jH hgr5 hsE) (λjH=>?_);clear hK K hnil5;try simp only [zS]
     try simp only [XT]
     clear hgr5 hE;refine rd 6 FT (λK hK=>?_);have hqN:=η v (γ #[ι κ (2),ι κ (0),τ (s)] 94);have hbN:=AE v (γ #[ι κ (2),ι κ (0),τ (s)] 94);have hsN:=jH.size;go_simp;refine hK.out _ _ (AA jH (AE _ _)) (λjH=>?_);clear hK K;try simp only [zS]
     generalize v.heap.size=BN at hqN hsN ⊢;generalize v.alloc (γ #[ι κ (2),ι κ (0),τ (s)] 94)=v at hqN hbN  jH ⊢;replace hO5:=AH hO5 hbN;clear hbN;refine rd 7 FQ (λK hK=>?_);rw [if_pos (by kernel_rfl)];refine wp_append_lies _ _ _ _ rfl w4.heap.size 94 j0 (χ #[ι κ 0,ι κ 0,τ XN]) 3 32 Tryz.underlying60 HI.out hz0 hz1 hz2 rfl (by omega) (σ (ς ⟨g5,0,ν⟩) j cap5) j (A5 (L.take j)) rfl hO5 ⟨BN,0,ν⟩ 1 1 (v3 ⟨2,0,s⟩) rfl rfl (XP hqN) (Af [⟨2,0,s⟩]) (by omega) (by unfold maxLen;omega) (by omega) jH.size _ rfl ?_;intro g6 cap6 v hO6 hgr6 hat6 hlt6;refine hK.out _ _ (gB jH hgr6 hlt5) (λjH=>?_);clear hK K hgr6 hat6;try simp only [zS]
     refine tk 8 FP (λx jS=>by go_simp<;>rfl) jH ?_
     try simp only [zS]
     refine XW (by kernel_rfl) ?_ _
    case' w6_c3=>
     have hqN:=η v (γ #[ι κ (2),ι κ (0),τ (s)] 94);have hbN:=AE v (γ #[ι κ (2),ι κ (0),τ (s)] 94);have hsN:=jH.size;go_simp;refine hK.out _ _ (AA jH (AE _ _)) (λjH=>?_);clear hK K;try simp only [zS]
     have hnEN:BE≠v.heap.size:=Nat.ne_of_lt (XS.1 hqE).1;generalize v.heap.size=BN at hqN hsN hnEN ⊢;generalize v.alloc (γ #[ι κ (2),ι κ (0),τ (s)] 94)=v at hqN hbN  jH ⊢;replace hE:=AH hE hbN;clear hbN;refine rd 4 AaA (λK hK=>?_);rw [if_pos (by kernel_rfl)];refine wp_append_own _ _ _ _ rfl w4.heap.size 94 j0 (χ #[ι κ 0,ι κ 0,τ XN]) 3 32 Tryz.underlying60 HI.out hz0 hz1 hz2 rfl (by omega) (σ (ς ⟨BE,0,ν⟩) 0 0) 0 [] rfl hE ⟨g,0,ν⟩ j cap (A5 (L.take j)) rfl (by rw [BG,Xf];omega) (Sv.news (AH hO4 jH)) (Af _) (by unfold maxLen;omega) (by omega) jH.size ?_;intro v5 v hO5 hgr5 hnil5;obtain⟨g5,cap5,rfl⟩:=Ac hO5 (λe=>by have:=hnil5.1 e;simp at this);rw [XT,Xk] at hO5;have hlt5:=(hO5.lt g5 rfl).1;refine hK.out _ _ (gB jH hgr5 hsE) (λjH=>?_);clear hK K hnil5;try simp only [zS]
     try simp only [XT]
     replace hqN:=GH hqN hgr5 hnEN.symm;clear hgr5 hE;refine rd 7 FQ (λK hK=>?_);rw [if_pos (by kernel_rfl)];refine wp_append_lies _ _ _ _ rfl w4.heap.size 94 j0 (χ #[ι κ 0,ι κ 0,τ XN]) 3 32 Tryz.underlying60 HI.out hz0 hz1 hz2 rfl (by omega) (σ (ς ⟨g5,0,ν⟩) j cap5) j (A5 (L.take j)) rfl hO5 ⟨BN,0,ν⟩ 1 1 (v3 ⟨2,0,s⟩) rfl rfl (XP hqN) (Af [⟨2,0,s⟩]) (by omega) (by unfold maxLen;omega) (by omega) jH.size _ rfl ?_;intro g6 cap6 v hO6 hgr6 hat6 hlt6;refine hK.out _ _ (gB jH hgr6 hlt5) (λjH=>?_);clear hK K hgr6 hat6;try simp only [zS]
     refine tk 8 FP (λx jS=>by go_simp<;>rfl) jH ?_
     try simp only [zS]
     refine XW (by kernel_rfl) ?_ _
   case' w6_c1=>
    have hqN:=η v (γ #[ι κ (2),ι κ (0),τ (s)] 94);have hbN:=AE v (γ #[ι κ (2),ι κ (0),τ (s)] 94);have hsN:=jH.size;go_simp;refine hK.out _ _ (AA jH (AE _ _)) (λjH=>?_);clear hK K;try simp only [zS]
    generalize v.heap.size=BN at hqN hsN ⊢;generalize v.alloc (γ #[ι κ (2),ι κ (0),τ (s)] 94)=v at hqN hbN  jH ⊢;clear hbN;refine rd 0 IJ (λK hK=>?_);have hqE:=η v (γ #[] 94);have hbE:=AE v (γ #[] 94);have hsE:=jH.size;have hE:(v.alloc (γ #[] 94)).ownsRow w4.heap.size 94 3 (σ (ς ⟨v.heap.size,0,ν⟩) 0 0) 0 []:=Xb v #[] 0 jH.size (by unfold maxLen;omega) rfl;go_simp;refine hK.out _ _ (AA jH (AE _ _)) (λjH=>?_);clear hK K;try simp only [zS]
    have hnNE:BN≠v.heap.size:=Nat.ne_of_lt (XS.1 hqN).1;generalize v.heap.size=BE at hqE hsE hE hnNE ⊢;generalize v.alloc (γ #[] 94)=v at hqE hbE hE jH ⊢;replace hqN:=AC hqN hbE;clear hbE;refine rd 4 AaA (λK hK=>?_);rw [if_pos (by kernel_rfl)];refine wp_append_own _ _ _ _ rfl w4.heap.size 94 j0 (χ #[ι κ 0,ι κ 0,τ XN]) 3 32 Tryz.underlying60 HI.out hz0 hz1 hz2 rfl (by omega) (σ (ς ⟨BE,0,ν⟩) 0 0) 0 [] rfl hE ⟨g,0,ν⟩ j cap (A5 (L.take j)) rfl (by rw [BG,Xf];omega) (Sv.news (AH hO4 jH)) (Af _) (by unfold maxLen;omega) (by omega) jH.size ?_;intro v5 v hO5 hgr5 hnil5;obtain⟨g5,cap5,rfl⟩:=Ac hO5 (λe=>by have:=hnil5.1 e;simp at this);rw [XT,Xk] at hO5;have hlt5:=(hO5.lt g5 rfl).1;refine hK.out _ _ (gB jH hgr5 hsE) (λjH=>?_);clear hK K hnil5;try simp only [zS]
    try simp only [XT]
    replace hqN:=GH hqN hgr5 hnNE;clear hgr5 hE;refine rd 7 FQ (λK hK=>?_);rw [if_pos (by kernel_rfl)];refine wp_append_lies _ _ _ _ rfl w4.heap.size 94 j0 (χ #[ι κ 0,ι κ 0,τ XN]) 3 32 Tryz.underlying60 HI.out hz0 hz1 hz2 rfl (by omega) (σ (ς ⟨g5,0,ν⟩) j cap5) j (A5 (L.take j)) rfl hO5 ⟨BN,0,ν⟩ 1 1 (v3 ⟨2,0,s⟩) rfl rfl (XP hqN) (Af [⟨2,0,s⟩]) (by omega) (by unfold maxLen;omega) (by omega) jH.size _ rfl ?_;intro g6 cap6 v hO6 hgr6 hat6 hlt6;refine hK.out _ _ (gB jH hgr6 hlt5) (λjH=>?_);clear hK K hgr6 hat6;try simp only [zS]
    refine tk 8 FP (λx jS=>by go_simp<;>rfl) jH ?_
    try simp only [zS]
    refine XW (by kernel_rfl) ?_ _
   all_goals
    obtain⟨q1,q2⟩:=Di (r:=⟨2,0,s⟩) hjl (Eb hO6 hb4.size);have hb6:=AA hb4 jH;go_wp2;go_roundw
    case rel=>exact⟨k+1,g6,cap6,L.take j ++ [⟨2,0,s⟩],by omega,by go_num,by rw [q1],by rw [HST.out,HT.out],q2,hb6⟩
    case measure=>simp [XX];omega
  by_cases o3:o=3
  ·
   subst o3;obtain⟨q,hcol⟩:=HCOL.out rfl;have HT:Hid (ES C n R ⟨3,mm,s⟩ (L.drop j)=⟨(R q).o,(R q).m,(R q).s⟩):=by show _=_;simp [ES,hcol]
   have HZ:Hj (Bo C s n)=(q:Int):=by rw [hcol];rfl
   have hq:=(Cu hcol).1;have hq0:(0:Int)<=(q:Int):=by omega
   have hq1:(q:Int)<n:=by omega
   clear hcol;obtain⟨b2,off2,rfl,-⟩:=hRU q hq;have hbW:υ wr.heap.size wr ((wr.alloc (γ #[ι κ 3,ι κ mm,τ s] 135)).alloc (γ #[ι κ 1,ι κ mm,τ ⟨#[]⟩] 94)):=AA (AE _ _) (AE _ _);have hrW:((wr.alloc (γ #[ι κ 3,ι κ mm,τ s] 135)).alloc (γ #[ι κ 1,ι κ mm,τ ⟨#[]⟩] 94)).heap[wr.heap.size+1]?=ς _:=(by have q:=η (wr.alloc (γ #[ι κ 3,ι κ mm,τ s] 135)) (γ #[ι κ 1,ι κ mm,τ ⟨#[]⟩] 94);rw [ω] at q;exact q);go_upto_region 14 with first | (go_at_call 81;refine(ED ac n cc C s _ (hCU.later (AA hb hbW)) hn).mono ?_;rintro e w5 ⟨rfl,hb5⟩;rw [HZ];have hB5:=AA hbW hb5;have hr5:=AC hrW hb5;obtain⟨r0,r1,r2,f0,f1,f2⟩:=AX hr5;obtain⟨b3,off3,e3,t0,t1,t2,hs3⟩:=hRU.later (AA hb hB5) q hq;obtain⟨rfl,rfl⟩:b2=b3/\off2=off3:=(by simpa using e3);clear e3) | (go_at_call 80;refine(BO (3) _).mono ?_;rintro e w3 ⟨rfl,rfl⟩)
   have hrow:(((w5.setCell ⟨wr.heap.size+1,0,ν⟩ (ι κ (R q).o)).setCell ⟨wr.heap.size+1,1,ν⟩ (ι κ (R q).m)).setCell ⟨wr.heap.size+1,2,ν⟩ (τ (R q).s)).heap[wr.heap.size+1]?=ς (γ #[ι κ ((R q).o),ι κ ((R q).m),τ ((R q).s)] 94 (0,0)):=Cz hr5 _ _ _;have hB4:υ wr.heap.size wr (((w5.setCell ⟨wr.heap.size+1,0,ν⟩ (ι κ (R q).o)).setCell ⟨wr.heap.size+1,1,ν⟩ (ι κ (R q).m)).setCell ⟨wr.heap.size+1,2,ν⟩ (τ (R q).s)):=BB hB5 (by omega) _ _ _;generalize (((w5.setCell ⟨wr.heap.size+1,0,ν⟩ (ι κ (R q).o)).setCell ⟨wr.heap.size+1,1,ν⟩ (ι κ (R q).m)).setCell ⟨wr.heap.size+1,2,ν⟩ (τ (R q).s))=w4 at hrow hB4 ⊢;have hO4:Sv w4 _ g cap L:=AH hO hB4;have hb4:=AA hb hB4;obtain⟨q0,q1,q2,-⟩:=AX hrow;clear hB4;refine XO (S:=λx=>υ w4.heap.size w4 x) (by kernel_rfl) (CE _) (λjH=>?_);generalize w4.drew=v at jH ⊢;refine tk 1 Ox (λx jS=>by go_simp<;>rfl) jH ?_
   try simp only [zS]
   refine tk 2 Ow (λx jS=>by go_simp<;>rfl) jH ?_
   try simp only [zS]
   refine tk 3 Ov (λx jS=>by go_simp<;>rfl) jH ?_
   try simp only [zS]
   refine tk 5 Ou (λx jS=>by have k0:=AB jS q0;have k1:=AB jS q1;have k2:=AB jS q2;go_simp<;>rfl) jH ?_
   try simp only [zS]
   refine wpAnyH_ready (rs:=[0,6]) (by kernel_rfl) (by simp) ?_;refine(AllReadyH.cons (o:=IJ) rfl (λK hK=>?w7_c2) (AllReadyH.cons (o:=FT) rfl (λK hK=>?w7_c1) AllReadyH.nil));case' w7_c2=>
    have hqE:=η v (γ #[] 94);have hbE:=AE v (γ #[] 94);have hsE:=jH.size;have hE:(v.alloc (γ #[] 94)).ownsRow w4.heap.size 94 3 (σ (ς ⟨v.heap.size,0,ν⟩) 0 0) 0 []:=Xb v #[] 0 jH.size (by unfold maxLen;omega) rfl;go_simp;refine hK.out _ _ (AA jH (AE _ _)) (λjH=>?_);clear hK K;try simp only [zS]
    generalize v.heap.size=BE at hqE hsE hE ⊢;generalize v.alloc (γ #[] 94)=v at hqE hbE hE jH ⊢;clear hbE;refine wpAnyH_ready (rs:=[4,6]) (by kernel_rfl) (by simp) ?_;refine(AllReadyH.cons (o:=AaA) rfl (λK hK=>?w7_c4) (AllReadyH.cons (o:=FT) rfl (λK hK=>?w7_c3) AllReadyH.nil));case' w7_c4=>
     rw [if_pos (by kernel_rfl)];refine wp_append_own _ _ _ _ rfl w4.heap.size 94 j0 (χ #[ι κ 0,ι κ 0,τ XN]) 3 32 Tryz.underlying60 HI.out hz0 hz1 hz2 rfl (by omega) (σ (ς ⟨BE,0,ν⟩) 0 0) 0 [] rfl hE ⟨g,0,ν⟩ j cap (A5 (L.take j)) rfl (by rw [BG,Xf];omega) (Sv.news (AH hO4 jH)) (Af _) (by unfold maxLen;omega) (by omega) jH.size ?_;intro v5 v hO5 hgr5 hnil5;obtain⟨g5,cap5,rfl⟩:=Ac hO5 (λe=>by have:=hnil5.1 e;simp at this);rw [XT,Xk] at hO5;have hlt5:=(hO5.lt g5 rfl).1;refine hK.out _ _ (gB jH hgr5 hsE) (λjH=>?_);clear hK K hnil5;try simp only [zS]
     try simp only [XT]
     clear hgr5 hE;refine rd 6 FT (λK hK=>?_);have hqN:=η v (γ #[ι κ ((R q).o),ι κ ((R q).m),τ ((R q).s)] 94);have hbN:=AE v (γ #[ι κ ((R q).o),ι κ ((R q).m),τ ((R q).s)] 94);have hsN:=jH.size;go_simp;refine hK.out _ _ (AA jH (AE _ _)) (λjH=>?_);clear hK K;try simp only [zS]
     generalize v.heap.size=BN at hqN hsN ⊢;generalize v.alloc (γ #[ι κ ((R q).o),ι κ ((R q).m),τ ((R q).s)] 94)=v at hqN hbN  jH ⊢;replace hO5:=AH hO5 hbN;clear hbN;refine rd 7 FQ (λK hK=>?_);rw [if_pos (by kernel_rfl)];refine wp_append_lies _ _ _ _ rfl w4.heap.size 94 j0 (χ #[ι κ 0,ι κ 0,τ XN]) 3 32 Tryz.underlying60 HI.out hz0 hz1 hz2 rfl (by omega) (σ (ς ⟨g5,0,ν⟩) j cap5) j (A5 (L.take j)) rfl hO5 ⟨BN,0,ν⟩ 1 1 (v3 ⟨(R q).o,(R q).m,(R q).s⟩) rfl rfl (XP hqN) (Af [⟨(R q).o,(R q).m,(R q).s⟩]) (by omega) (by unfold maxLen;omega) (by omega) jH.size _ rfl ?_;intro g6 cap6 v hO6 hgr6 hat6 hlt6;refine hK.out _ _ (gB jH hgr6 hlt5) (λjH=>?_);clear hK K hgr6 hat6;try simp only [zS]
     refine tk 8 FP (λx jS=>by go_simp<;>rfl) jH ?_
     try simp only [zS]
     refine XW (by kernel_rfl) ?_ _
    case' w7_c3=>
     have hqN:=η v (γ #[ι κ ((R q).o),ι κ ((R q).m),τ ((R q).s)] 94);have hbN:=AE v (γ #[ι κ ((R q).o),ι κ ((R q).m),τ ((R q).s)] 94);have hsN:=jH.size;go_simp;refine hK.out _ _ (AA jH (AE _ _)) (λjH=>?_);clear hK K;try simp only [zS]
     have hnEN:BE≠v.heap.size:=Nat.ne_of_lt (XS.1 hqE).1;generalize v.heap.size=BN at hqN hsN hnEN ⊢;generalize v.alloc (γ #[ι κ ((R q).o),ι κ ((R q).m),τ ((R q).s)] 94)=v at hqN hbN  jH ⊢;replace hE:=AH hE hbN;clear hbN;refine rd 4 AaA (λK hK=>?_);rw [if_pos (by kernel_rfl)];refine wp_append_own _ _ _ _ rfl w4.heap.size 94 j0 (χ #[ι κ 0,ι κ 0,τ XN]) 3 32 Tryz.underlying60 HI.out hz0 hz1 hz2 rfl (by omega) (σ (ς ⟨BE,0,ν⟩) 0 0) 0 [] rfl hE ⟨g,0,ν⟩ j cap (A5 (L.take j)) rfl (by rw [BG,Xf];omega) (Sv.news (AH hO4 jH)) (Af _) (by unfold maxLen;omega) (by omega) jH.size ?_;intro v5 v hO5 hgr5 hnil5;obtain⟨g5,cap5,rfl⟩:=Ac hO5 (λe=>by have:=hnil5.1 e;simp at this);rw [XT,Xk] at hO5;have hlt5:=(hO5.lt g5 rfl).1;refine hK.out _ _ (gB jH hgr5 hsE) (λjH=>?_);clear hK K hnil5;try simp only [zS]
     try simp only [XT]
     replace hqN:=GH hqN hgr5 hnEN.symm;clear hgr5 hE;refine rd 7 FQ (λK hK=>?_);rw [if_pos (by kernel_rfl)];refine wp_append_lies _ _ _ _ rfl w4.heap.size 94 j0 (χ #[ι κ 0,ι κ 0,τ XN]) 3 32 Tryz.underlying60 HI.out hz0 hz1 hz2 rfl (by omega) (σ (ς ⟨g5,0,ν⟩) j cap5) j (A5 (L.take j)) rfl hO5 ⟨BN,0,ν⟩ 1 1 (v3 ⟨(R q).o,(R q).m,(R q).s⟩) rfl rfl (XP hqN) (Af [⟨(R q).o,(R q).m,(R q).s⟩]) (by omega) (by unfold maxLen;omega) (by omega) jH.size _ rfl ?_;intro g6 cap6 v hO6 hgr6 hat6 hlt6;refine hK.out _ _ (gB jH hgr6 hlt5) (λjH=>?_);clear hK K hgr6 hat6;try simp only [zS]
     refine tk 8 FP (λx jS=>by go_simp<;>rfl) jH ?_
     try simp only [zS]
     refine XW (by kernel_rfl) ?_ _
   case' w7_c1=>
    have hqN:=η v (γ #[ι κ ((R q).o),ι κ ((R q).m),τ ((R q).s)] 94);have hbN:=AE v (γ #[ι κ ((R q).o),ι κ ((R q).m),τ ((R q).s)] 94);have hsN:=jH.size;go_simp;refine hK.out _ _ (AA jH (AE _ _)) (λjH=>?_);clear hK K;try simp only [zS]
    generalize v.heap.size=BN at hqN hsN ⊢;generalize v.alloc (γ #[ι κ ((R q).o),ι κ ((R q).m),τ ((R q).s)] 94)=v at hqN hbN  jH ⊢;clear hbN;refine rd 0 IJ (λK hK=>?_);have hqE:=η v (γ #[] 94);have hbE:=AE v (γ #[] 94);have hsE:=jH.size;have hE:(v.alloc (γ #[] 94)).ownsRow w4.heap.size 94 3 (σ (ς ⟨v.heap.size,0,ν⟩) 0 0) 0 []:=Xb v #[] 0 jH.size (by unfold maxLen;omega) rfl;go_simp;refine hK.out _ _ (AA jH (AE _ _)) (λjH=>?_);clear hK K;try simp only [zS]
    have hnNE:BN≠v.heap.size:=Nat.ne_of_lt (XS.1 hqN).1;generalize v.heap.size=BE at hqE hsE hE hnNE ⊢;generalize v.alloc (γ #[] 94)=v at hqE hbE hE jH ⊢;replace hqN:=AC hqN hbE;clear hbE;refine rd 4 AaA (λK hK=>?_);rw [if_pos (by kernel_rfl)];refine wp_append_own _ _ _ _ rfl w4.heap.size 94 j0 (χ #[ι κ 0,ι κ 0,τ XN]) 3 32 Tryz.underlying60 HI.out hz0 hz1 hz2 rfl (by omega) (σ (ς ⟨BE,0,ν⟩) 0 0) 0 [] rfl hE ⟨g,0,ν⟩ j cap (A5 (L.take j)) rfl (by rw [BG,Xf];omega) (Sv.news (AH hO4 jH)) (Af _) (by unfold maxLen;omega) (by omega) jH.size ?_;intro v5 v hO5 hgr5 hnil5;obtain⟨g5,cap5,rfl⟩:=Ac hO5 (λe=>by have:=hnil5.1 e;simp at this);rw [XT,Xk] at hO5;have hlt5:=(hO5.lt g5 rfl).1;refine hK.out _ _ (gB jH hgr5 hsE) (λjH=>?_);clear hK K hnil5;try simp only [zS]
    try simp only [XT]
    replace hqN:=GH hqN hgr5 hnNE;clear hgr5 hE;refine rd 7 FQ (λK hK=>?_);rw [if_pos (by kernel_rfl)];refine wp_append_lies _ _ _ _ rfl w4.heap.size 94 j0 (χ #[ι κ 0,ι κ 0,τ XN]) 3 32 Tryz.underlying60 HI.out hz0 hz1 hz2 rfl (by omega) (σ (ς ⟨g5,0,ν⟩) j cap5) j (A5 (L.take j)) rfl hO5 ⟨BN,0,ν⟩ 1 1 (v3 ⟨(R q).o,(R q).m,(R q).s⟩) rfl rfl (XP hqN) (Af [⟨(R q).o,(R q).m,(R q).s⟩]) (by omega) (by unfold maxLen;omega) (by omega) jH.size _ rfl ?_;intro g6 cap6 v hO6 hgr6 hat6 hlt6;refine hK.out _ _ (gB jH hgr6 hlt5) (λjH=>?_);clear hK K hgr6 hat6;try simp only [zS]
    refine tk 8 FP (λx jS=>by go_simp<;>rfl) jH ?_
    try simp only [zS]
    refine XW (by kernel_rfl) ?_ _
   all_goals
    obtain⟨q1,q2⟩:=Di (r:=⟨(R q).o,(R q).m,(R q).s⟩) hjl (Eb hO6 hb4.size);have hb6:=AA hb4 jH;go_wp2;go_roundw
    case rel=>exact⟨k+1,g6,cap6,L.take j ++ [⟨(R q).o,(R q).m,(R q).s⟩],by omega,by go_num,by rw [q1],by rw [HST.out,HT.out],q2,hb6⟩
    case measure=>simp [XX];omega
  obtain⟨x,hx⟩:∃ x,DS o (L.getD j d0) (L.getD (j+1) d0)=x:=⟨_,rfl⟩;have HT:Hid (ES C n R ⟨o,mm,s⟩ (L.drop j)=⟨x.o,x.m,x.s⟩):=by show _=_;rw [←hx];simp only [ES];rw [if_neg o1,if_neg o2,if_neg o3];simp
  have n1:(o == 1)=false:=by simpa using o1
  have n2:(o == 2)=false:=by simpa using o2
  have n3:(o == 3)=false:=by simpa using o3
  have h4:4<=o:=by omega
  have h13:=hop.2;have har:1<=Aj o:=by unfold Aj;split <;> (try split) <;> omega
  have hjL:j<L.length:=by have:=HLE.out;omega
  have hjc3:j<cap:=by omega
  have hjc4:(j:Int)<cap:=by omega
  have hbW:υ wr.heap.size wr ((wr.alloc (γ #[ι κ o,ι κ mm,τ s] 135)).alloc (γ #[ι κ 1,ι κ mm,τ ⟨#[]⟩] 94)):=AA (AE _ _) (AE _ _);have hrW:((wr.alloc (γ #[ι κ o,ι κ mm,τ s] 135)).alloc (γ #[ι κ 1,ι κ mm,τ ⟨#[]⟩] 94)).heap[wr.heap.size+1]?=ς _:=(by have q:=η (wr.alloc (γ #[ι κ o,ι κ mm,τ s] 135)) (γ #[ι κ 1,ι κ mm,τ ⟨#[]⟩] 94);rw [ω] at q;exact q);have i9:((wr.alloc (γ #[ι κ o,ι κ mm,τ s] 135)).alloc (γ #[ι κ 1,ι κ mm,τ ⟨#[]⟩] 94)).cell? ⟨wr.heap.size,0,ν⟩=ς (ι κ o):=AB (AE _ _) ((AX (η wr _)).1);clear o1 o2 o3 har;go_upto_region 8 with (go_at_call 80;refine(BO (o) _).mono ?_;rintro e w3 ⟨rfl,rfl⟩)
  refine XO (S:=λx=>υ wr.heap.size wr x/\x.cell? ⟨wr.heap.size,0,ν⟩=ς (ι κ o)) (by kernel_rfl) (⟨AA hbW (CE _),i9⟩) (λjH=>?_);refine tk 0 (⟨ς 30,.fieldAddr 135 (δ 9) 0,0,"l5_replay.go:180",#[],ν⟩:Oper) (λx jS=>by go_simp<;>rfl) jH ?_
  try simp only [zS]
  refine tk 1 (⟨ς 31,.load 3 (δ 30),3,"l5_replay.go:180",#[⟨0,φ⟩],ν⟩:Oper) (λx jS=>by have k0:=jS.2;go_simp<;>rfl) jH ?_
  try simp only [zS]
  refine tk 2 (⟨ς 32,.move (δ 7),60,"l5_replay.go:180",#[],ν⟩:Oper) (λx jS=>by go_simp<;>rfl) jH ?_
  try simp only [zS]
  refine tk 3 (⟨ς 33,.move (δ 10),3,"l5_replay.go:180",#[],ν⟩:Oper) (λx jS=>by go_simp<;>rfl) jH ?_
  try simp only [zS]
  refine tk 4 (⟨ς 34,.slice 60 (δ 32) (ς (δ 33)) ν ν,60,"l5_replay.go:180",#[⟨2,φ⟩,⟨3,φ⟩],ν⟩:Oper) (λx jS=>by go_simp<;>rfl) jH ?_
  try simp only [zS]
  refine rd 5 (⟨ς 35,.call ⟨.value (.func 82),#[δ 31,δ 34],#[3,60]⟩,94,"l5_replay.go:180",#[⟨1,φ⟩,⟨4,φ⟩],ν⟩:Oper) (λK hK=>?_);go_simp;rw [if_neg (show ¬cap=j by omega)];have hApp:=R2 o (ς ⟨g,j * 3,ν⟩) (L.length - j) (cap - j) (λi=>L.getD (j+i) d0) _ (Sv.il (AH hO jH.1) (by omega) j) HLE.out.2.2.2 (by omega) h4 h13;rw [show DS o (L.getD (j+0) d0) (L.getD (j+1) d0)=x from hx] at hApp
  refine(hApp).mono ?_;rintro e w5 ⟨rfl,hb5⟩;have hr5:=AC hrW (AA (CE _) hb5);have hB5:=AA jH.1 hb5;obtain⟨r0,r1,r2,f0,f1,f2⟩:=AX hr5;refine hK.out _ _ (⟨hB5,AB hb5 jH.2⟩) (λjH=>?_);clear hK K;try simp only [zS]
  refine rd 6 (⟨ν,.store 94 (δ 11) (δ 35),0,"l5_replay.go:180",#[⟨5,φ⟩,⟨5,.chain⟩,⟨0,ξ⟩,⟨1,ξ⟩,⟨2,ξ⟩,⟨3,ξ⟩,⟨4,ξ⟩,⟨5,ξ⟩],ν⟩:Oper) (λK hK=>?_);skip
  go_simp;refine hK.out _ _ (⟨BB jH.1 (by omega) _ _ _,Io (by omega) jH.2⟩) (λjH=>?_);clear hK K;try simp only [zS]
  refine XW (by kernel_rfl) ?_ _;clear jH;go_wp2;have hrow:(((w5.setCell ⟨wr.heap.size+1,0,ν⟩ (ι κ x.o)).setCell ⟨wr.heap.size+1,1,ν⟩ (ι κ x.m)).setCell ⟨wr.heap.size+1,2,ν⟩ (τ x.s)).heap[wr.heap.size+1]?=ς (γ #[ι κ (x.o),ι κ (x.m),τ (x.s)] 94 (0,0)):=Cz hr5 _ _ _;have hB4:υ wr.heap.size wr (((w5.setCell ⟨wr.heap.size+1,0,ν⟩ (ι κ x.o)).setCell ⟨wr.heap.size+1,1,ν⟩ (ι κ x.m)).setCell ⟨wr.heap.size+1,2,ν⟩ (τ x.s)):=BB hB5 (by omega) _ _ _;generalize (((w5.setCell ⟨wr.heap.size+1,0,ν⟩ (ι κ x.o)).setCell ⟨wr.heap.size+1,1,ν⟩ (ι κ x.m)).setCell ⟨wr.heap.size+1,2,ν⟩ (τ x.s))=w4 at hrow hB4 ⊢;have hO4:Sv w4 _ g cap L:=AH hO hB4;have hb4:=AA hb hB4;obtain⟨q0,q1,q2,-⟩:=AX hrow;clear hB4;refine XO (S:=λx=>υ w4.heap.size w4 x) (by kernel_rfl) (CE _) (λjH=>?_);generalize w4.drew=v at jH ⊢;refine tk 1 Ox (λx jS=>by go_simp<;>rfl) jH ?_
  try simp only [zS]
  refine tk 2 Ow (λx jS=>by go_simp<;>rfl) jH ?_
  try simp only [zS]
  refine tk 3 Ov (λx jS=>by go_simp<;>rfl) jH ?_
  try simp only [zS]
  refine tk 5 Ou (λx jS=>by have k0:=AB jS q0;have k1:=AB jS q1;have k2:=AB jS q2;go_simp<;>rfl) jH ?_
  try simp only [zS]
  refine wpAnyH_ready (rs:=[0,6]) (by kernel_rfl) (by simp) ?_;refine(AllReadyH.cons (o:=IJ) rfl (λK hK=>?w8_c2) (AllReadyH.cons (o:=FT) rfl (λK hK=>?w8_c1) AllReadyH.nil));case' w8_c2=>
   have hqE:=η v (γ #[] 94);have hbE:=AE v (γ #[] 94);have hsE:=jH.size;have hE:(v.alloc (γ #[] 94)).ownsRow w4.heap.size 94 3 (σ (ς ⟨v.heap.size,0,ν⟩) 0 0) 0 []:=Xb v #[] 0 jH.size (by unfold maxLen;omega) rfl;go_simp;refine hK.out _ _ (AA jH (AE _ _)) (λjH=>?_);clear hK K;try simp only [zS]
   generalize v.heap.size=BE at hqE hsE hE ⊢;generalize v.alloc (γ #[] 94)=v at hqE hbE hE jH ⊢;clear hbE;refine wpAnyH_ready (rs:=[4,6]) (by kernel_rfl) (by simp) ?_;refine(AllReadyH.cons (o:=AaA) rfl (λK hK=>?w8_c4) (AllReadyH.cons (o:=FT) rfl (λK hK=>?w8_c3) AllReadyH.nil));case' w8_c4=>
    rw [if_pos (by kernel_rfl)];refine wp_append_own _ _ _ _ rfl w4.heap.size 94 j0 (χ #[ι κ 0,ι κ 0,τ XN]) 3 32 Tryz.underlying60 HI.out hz0 hz1 hz2 rfl (by omega) (σ (ς ⟨BE,0,ν⟩) 0 0) 0 [] rfl hE ⟨g,0,ν⟩ j cap (A5 (L.take j)) rfl (by rw [BG,Xf];omega) (Sv.news (AH hO4 jH)) (Af _) (by unfold maxLen;omega) (by omega) jH.size ?_;intro v5 v hO5 hgr5 hnil5;obtain⟨g5,cap5,rfl⟩:=Ac hO5 (λe=>by have:=hnil5.1 e;simp at this);rw [XT,Xk] at hO5;have hlt5:=(hO5.lt g5 rfl).1;refine hK.out _ _ (gB jH hgr5 hsE) (λjH=>?_);clear hK K hnil5;try simp only [zS]
    try simp only [XT]
    clear hgr5 hE;refine rd 6 FT (λK hK=>?_);have hqN:=η v (γ #[ι κ (x.o),ι κ (x.m),τ (x.s)] 94);have hbN:=AE v (γ #[ι κ (x.o),ι κ (x.m),τ (x.s)] 94);have hsN:=jH.size;go_simp;refine hK.out _ _ (AA jH (AE _ _)) (λjH=>?_);clear hK K;try simp only [zS]
    generalize v.heap.size=BN at hqN hsN ⊢;generalize v.alloc (γ #[ι κ (x.o),ι κ (x.m),τ (x.s)] 94)=v at hqN hbN  jH ⊢;replace hO5:=AH hO5 hbN;clear hbN;refine rd 7 FQ (λK hK=>?_);rw [if_pos (by kernel_rfl)];refine wp_append_lies _ _ _ _ rfl w4.heap.size 94 j0 (χ #[ι κ 0,ι κ 0,τ XN]) 3 32 Tryz.underlying60 HI.out hz0 hz1 hz2 rfl (by omega) (σ (ς ⟨g5,0,ν⟩) j cap5) j (A5 (L.take j)) rfl hO5 ⟨BN,0,ν⟩ 1 1 (v3 ⟨x.o,x.m,x.s⟩) rfl rfl (XP hqN) (Af [⟨x.o,x.m,x.s⟩]) (by omega) (by unfold maxLen;omega) (by omega) jH.size _ rfl ?_;intro g6 cap6 v hO6 hgr6 hat6 hlt6;refine hK.out _ _ (gB jH hgr6 hlt5) (λjH=>?_);clear hK K hgr6 hat6;try simp only [zS]
    refine tk 8 FP (λx jS=>by go_simp<;>rfl) jH ?_
    try simp only [zS]
    refine XW (by kernel_rfl) ?_ _
   case' w8_c3=>
    have hqN:=η v (γ #[ι κ (x.o),ι κ (x.m),τ (x.s)] 94);have hbN:=AE v (γ #[ι κ (x.o),ι κ (x.m),τ (x.s)] 94);have hsN:=jH.size;go_simp;refine hK.out _ _ (AA jH (AE _ _)) (λjH=>?_);clear hK K;try simp only [zS]
    have hnEN:BE≠v.heap.size:=Nat.ne_of_lt (XS.1 hqE).1;generalize v.heap.size=BN at hqN hsN hnEN ⊢;generalize v.alloc (γ #[ι κ (x.o),ι κ (x.m),τ (x.s)] 94)=v at hqN hbN  jH ⊢;replace hE:=AH hE hbN;clear hbN;refine rd 4 AaA (λK hK=>?_);rw [if_pos (by kernel_rfl)];refine wp_append_own _ _ _ _ rfl w4.heap.size 94 j0 (χ #[ι κ 0,ι κ 0,τ XN]) 3 32 Tryz.underlying60 HI.out hz0 hz1 hz2 rfl (by omega) (σ (ς ⟨BE,0,ν⟩) 0 0) 0 [] rfl hE ⟨g,0,ν⟩ j cap (A5 (L.take j)) rfl (by rw [BG,Xf];omega) (Sv.news (AH hO4 jH)) (Af _) (by unfold maxLen;omega) (by omega) jH.size ?_;intro v5 v hO5 hgr5 hnil5;obtain⟨g5,cap5,rfl⟩:=Ac hO5 (λe=>by have:=hnil5.1 e;simp at this);rw [XT,Xk] at hO5;have hlt5:=(hO5.lt g5 rfl).1;refine hK.out _ _ (gB jH hgr5 hsE) (λjH=>?_);clear hK K hnil5;try simp only [zS]
    try simp only [XT]
    replace hqN:=GH hqN hgr5 hnEN.symm;clear hgr5 hE;refine rd 7 FQ (λK hK=>?_);rw [if_pos (by kernel_rfl)];refine wp_append_lies _ _ _ _ rfl w4.heap.size 94 j0 (χ #[ι κ 0,ι κ 0,τ XN]) 3 32 Tryz.underlying60 HI.out hz0 hz1 hz2 rfl (by omega) (σ (ς ⟨g5,0,ν⟩) j cap5) j (A5 (L.take j)) rfl hO5 ⟨BN,0,ν⟩ 1 1 (v3 ⟨x.o,x.m,x.s⟩) rfl rfl (XP hqN) (Af [⟨x.o,x.m,x.s⟩]) (by omega) (by unfold maxLen;omega) (by omega) jH.size _ rfl ?_;intro g6 cap6 v hO6 hgr6 hat6 hlt6;refine hK.out _ _ (gB jH hgr6 hlt5) (λjH=>?_);clear hK K hgr6 hat6;try simp only [zS]
    refine tk 8 FP (λx jS=>by go_simp<;>rfl) jH ?_
    try simp only [zS]
    refine XW (by kernel_rfl) ?_ _
  case' w8_c1=>
   have hqN:=η v (γ #[ι κ (x.o),ι κ (x.m),τ (x.s)] 94);have hbN:=AE v (γ #[ι κ (x.o),ι κ (x.m),τ (x.s)] 94);have hsN:=jH.size;go_simp;refine hK.out _ _ (AA jH (AE _ _)) (λjH=>?_);clear hK K;try simp only [zS]
   generalize v.heap.size=BN at hqN hsN ⊢;generalize v.alloc (γ #[ι κ (x.o),ι κ (x.m),τ (x.s)] 94)=v at hqN hbN  jH ⊢;clear hbN;refine rd 0 IJ (λK hK=>?_);have hqE:=η v (γ #[] 94);have hbE:=AE v (γ #[] 94);have hsE:=jH.size;have hE:(v.alloc (γ #[] 94)).ownsRow w4.heap.size 94 3 (σ (ς ⟨v.heap.size,0,ν⟩) 0 0) 0 []:=Xb v #[] 0 jH.size (by unfold maxLen;omega) rfl;go_simp;refine hK.out _ _ (AA jH (AE _ _)) (λjH=>?_);clear hK K;try simp only [zS]
   have hnNE:BN≠v.heap.size:=Nat.ne_of_lt (XS.1 hqN).1;generalize v.heap.size=BE at hqE hsE hE hnNE ⊢;generalize v.alloc (γ #[] 94)=v at hqE hbE hE jH ⊢;replace hqN:=AC hqN hbE;clear hbE;refine rd 4 AaA (λK hK=>?_);rw [if_pos (by kernel_rfl)];refine wp_append_own _ _ _ _ rfl w4.heap.size 94 j0 (χ #[ι κ 0,ι κ 0,τ XN]) 3 32 Tryz.underlying60 HI.out hz0 hz1 hz2 rfl (by omega) (σ (ς ⟨BE,0,ν⟩) 0 0) 0 [] rfl hE ⟨g,0,ν⟩ j cap (A5 (L.take j)) rfl (by rw [BG,Xf];omega) (Sv.news (AH hO4 jH)) (Af _) (by unfold maxLen;omega) (by omega) jH.size ?_;intro v5 v hO5 hgr5 hnil5;obtain⟨g5,cap5,rfl⟩:=Ac hO5 (λe=>by have:=hnil5.1 e;simp at this);rw [XT,Xk] at hO5;have hlt5:=(hO5.lt g5 rfl).1;refine hK.out _ _ (gB jH hgr5 hsE) (λjH=>?_);clear hK K hnil5;try simp only [zS]
   try simp only [XT]
   replace hqN:=GH hqN hgr5 hnNE;clear hgr5 hE;refine rd 7 FQ (λK hK=>?_);rw [if_pos (by kernel_rfl)];refine wp_append_lies _ _ _ _ rfl w4.heap.size 94 j0 (χ #[ι κ 0,ι κ 0,τ XN]) 3 32 Tryz.underlying60 HI.out hz0 hz1 hz2 rfl (by omega) (σ (ς ⟨g5,0,ν⟩) j cap5) j (A5 (L.take j)) rfl hO5 ⟨BN,0,ν⟩ 1 1 (v3 ⟨x.o,x.m,x.s⟩) rfl rfl (XP hqN) (Af [⟨x.o,x.m,x.s⟩]) (by omega) (by unfold maxLen;omega) (by omega) jH.size _ rfl ?_;intro g6 cap6 v hO6 hgr6 hat6 hlt6;refine hK.out _ _ (gB jH hgr6 hlt5) (λjH=>?_);clear hK K hgr6 hat6;try simp only [zS]
   refine tk 8 FP (λx jS=>by go_simp<;>rfl) jH ?_
   try simp only [zS]
   refine XW (by kernel_rfl) ?_ _
  all_goals
   obtain⟨q1,q2⟩:=Di (r:=⟨x.o,x.m,x.s⟩) hjl (Eb hO6 hb4.size);have hb6:=AA hb4 jH;go_wp2;go_roundw
   case rel=>exact⟨k+1,g6,cap6,L.take j ++ [⟨x.o,x.m,x.s⟩],by omega,by go_num,by rw [q1],by rw [HST.out,HT.out],q2,hb6⟩
   case measure=>simp [XX];omega
