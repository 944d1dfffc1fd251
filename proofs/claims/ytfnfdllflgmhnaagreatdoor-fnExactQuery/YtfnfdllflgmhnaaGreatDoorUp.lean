import Derived.Test.YtfnfdllflgmhnaaGreatDoorUn
open Go renaming Calls → XR, World → ο, bodyPost_ret → XL, heap_alloc_new → η, heap_setCell_same → π, wpAnyH_done → XW, wp_region_held_drew → XO, Value → XU
open Go.Ending renaming returned → ρ
open Go.Ground renaming data → φ
open Go.IntKind renaming i64 → κ
open Go.Obj renaming cells → γ
open Go.Operand renaming tmp → δ
open Go.Proofs.Tryz renaming prog → μ
open Go.RowKit renaming Below → υ, intOf → XX
open Go.RowKit.Below renaming refl → Xa
open Go.Value renaming agg → χ, bool → β, int → ι, slice → σ, string → τ, tuple → θ
open Go.World renaming size_alloc → ω, size_setCell → Xl
open List renaming length_take → Xf
open Nat renaming zero_le → XZ, zero_add → XT
open Option renaming none → ν, some → ς
namespace Go.Proofs.YtfnfdllflgmhnaaGreatDoor
open Go.RowKit Go.Maps Go.WideMaps
set_option maxRecDepth 20000
set_option maxHeartbeats 16000000
def TB(ds:ByteArray)(dn:Nat)(dC:Nat->Clm)(dr:Nat)(dm:Nat->Nat)(dR:Nat->Nat->Itm)(n3:Nat)(V:Nat->Itm)(p:Nat):Td:=⟨ds,dn,dC,dr+1,λi=>(DM dm dR (n3,V) p i).1,λi=>(DM dm dR (n3,V) p i).2⟩
def Iv(T:Nat->Td)(n:Nat)(ds:ByteArray)(dn:Nat)(dC:Nat->Clm)(dr:Nat)(dm:Nat->Nat)(dR:Nat->Nat->Itm)(n3:Nat)(V:Nat->Itm):List Td×Int:=
 if Bz n3 dn V dC=false then (C8 T n,4) else if Dg dR (V 0).m (V 0).s dr<dr/\BP (dR (Dg dR (V 0).m (V 0).s dr) 0).m (dR (Dg dR (V 0).m (V 0).s dr) 0).s (V 0).m (V 0).s=0 then (C8 T n,5) else if dr=1000 then (C8 T n,6) else (D8 T (TB ds dn dC dr dm dR n3 V (Dg dR (V 0).m (V 0).s dr)) n,0)
theorem LT{n n' j:Nat}{V:Nat->Itm}{C:Nat->Clm}(hj:j<n)(h:¬(V j).o=(C j).t):Bz n n' V C=false:=by
 have:Aw n (λj=>(V j).o == (C j).t)=false:=Ae hj (by simpa using h);unfold Bz;rw [this,Bool.and_false]
theorem Ki{n:Nat}{V:Nat->Itm}{C:Nat->Clm}(h:∀ j,j<n->(V j).o=(C j).t):Bz n n V C=true:=by
 have:Aw n (λj=>(V j).o == (C j).t)=true:=Az (λj hj=>by simpa using h j hj);unfold Bz;rw [this];simp
theorem Ms{dm:Nat->Nat}{dR:Nat->Nat->Itm}{x:Rw}{dr p:Nat}{P:Rw->Prop}(hp:p<=dr)(h:∀ k,k<dr->P (dm k,dR k))(hx:P x):∀ i,i<dr+1->P (DM dm dR x p i):=λi hi=>by
 unfold DM;split
 · exact h i (by omega)
 ·
  split
  · exact hx
  · exact h (i - 1) (by omega)
theorem PutA.yes{bR offR dr cr:Nat}{dm:Nat->Nat}{dR:Nat->Nat->Itm}{n3:Nat}{V:Nat->Itm}{w0 w:ο}{p:Nat}{e:Ending}{w':ο}(h:PutA bR offR dr cr dm dR n3 V w0 w p e w')(hh:p<dr/\BP (dR p 0).m (dR p 0).s (V 0).m (V 0).s=0):e=ρ (θ #[σ (ς ⟨bR,offR,ν⟩) dr cr,β false])/\υ w.heap.size w w':=by
 obtain⟨hb,⟨-,-,e⟩ | ⟨hno,-⟩⟩:=h
 · exact⟨e,hb⟩
 · exact absurd hh hno
theorem PutA.no{bR offR dr cr:Nat}{dm:Nat->Nat}{dR:Nat->Nat->Itm}{n3:Nat}{V:Nat->Itm}{w0 w:ο}{p:Nat}{e:Ending}{w':ο}(h:PutA bR offR dr cr dm dR n3 V w0 w p e w')(hh:¬(p<dr/\BP (dR p 0).m (dR p 0).s (V 0).m (V 0).s=0)):∃ g cap f,e=ρ (θ #[σ (ς ⟨g,0,ν⟩) (dr+1) cap,β true])/\RO w.heap.size (λb=>b<w0.heap.size) w' (σ (ς ⟨g,0,ν⟩) (dr+1) cap) (dr+1) (DM dm dR (n3,V) p) f/\υ w.heap.size w w':=by
 obtain⟨hb,⟨h1,h2,-⟩ | ⟨-,g,cap,f,e,hR⟩⟩:=h
 · exact absurd ⟨h1,h2⟩ hh
 · exact⟨g,cap,f,e,hR,hb⟩
theorem Ob(a:Option Addr)(n c:Nat)(T:Nat->Td)(ds:ByteArray)(dn:Nat)(dC:Nat->Clm)(dr:Nat)(dm:Nat->Nat)(dR:Nat->Nat->Itm)(ac:Option Addr)(cc bR offR cr:Nat)(k0:Int)(tb:ByteArray)(a2:Option Addr)(n2 c2:Nat)(a3:Option Addr)(n3 c3:Nat)(col:ByteArray)(a5:Option Addr)(n5 c5:Nat)(a6:Option Addr)(n6 c6:Nat)(a7:Option Addr)(n7 c7:Nat)(V:Nat->Itm)(w:ο)(h:TL w a n T)(hC:CL w ac dn dC)(hR:OL w (ς ⟨bR,offR,ν⟩) dr dm dR)(hV:IL w a3 n3 V)(hn:n<=1000000)(hF:Kg n T)(hN:Nice dn dr dm dR)(hcr:dr<=cr)(hds:ds.size<=1048576)(h3m:n3<=1048576)(hVs:∀ j,j<n3->(V j).s.size<=1048576) :
 XR μ 75 #[χ #[σ a n c],χ #[τ ds,σ ac dn cc,σ (ς ⟨bR,offR,ν⟩) dr cr],χ #[ι κ k0,τ tb,σ a2 n2 c2,σ a3 n3 c3,τ col,σ a5 n5 c5,σ a6 n6 c6,σ a7 n7 c7]] w (LN w (Iv T n ds dn dC dr dm dR n3 V).1 (Iv T n ds dn dC dr dm dR n3 V).2):=by
 have HF:Hid (Kg n T):=hF;have HN:Hid (Nice dn dr dm dR):=hN;have hn0:=hN.n0;have hn1:=hN.n1;have hr1:=hN.r1;clear hF hN;have hbU:υ w.heap.size w ((((w.alloc (γ #[σ a n c] 45)).alloc (γ #[τ ds,σ ac dn cc,σ (ς ⟨bR,offR,ν⟩) dr cr] 100)).alloc (γ #[ι κ k0,τ tb,σ a2 n2 c2,σ a3 n3 c3,τ col,σ a5 n5 c5,σ a6 n6 c6,σ a7 n7 c7] 64)).alloc (γ #[σ ν 0 0] 45)):=AA (A7 _ _ _ _) (AE _ _);have hsU:((((w.alloc (γ #[σ a n c] 45)).alloc (γ #[τ ds,σ ac dn cc,σ (ς ⟨bR,offR,ν⟩) dr cr] 100)).alloc (γ #[ι κ k0,τ tb,σ a2 n2 c2,σ a3 n3 c3,τ col,σ a5 n5 c5,σ a6 n6 c6,σ a7 n7 c7] 64)).alloc (γ #[σ ν 0 0] 45)).heap.size=w.heap.size+4:=by rw [ω,ω,ω,ω]
 have hq0:((((w.alloc (γ #[σ a n c] 45)).alloc (γ #[τ ds,σ ac dn cc,σ (ς ⟨bR,offR,ν⟩) dr cr] 100)).alloc (γ #[ι κ k0,τ tb,σ a2 n2 c2,σ a3 n3 c3,τ col,σ a5 n5 c5,σ a6 n6 c6,σ a7 n7 c7] 64)).alloc (γ #[σ ν 0 0] 45)).heap[w.heap.size]?=ς (γ #[σ a n c] 45 (0,0)):=AC (AC (AC (η w _) (AE _ _)) (AE _ _)) (AE _ _);have hq1:((((w.alloc (γ #[σ a n c] 45)).alloc (γ #[τ ds,σ ac dn cc,σ (ς ⟨bR,offR,ν⟩) dr cr] 100)).alloc (γ #[ι κ k0,τ tb,σ a2 n2 c2,σ a3 n3 c3,τ col,σ a5 n5 c5,σ a6 n6 c6,σ a7 n7 c7] 64)).alloc (γ #[σ ν 0 0] 45)).heap[w.heap.size+1]?=ς (γ #[τ ds,σ ac dn cc,σ (ς ⟨bR,offR,ν⟩) dr cr] 100 (0,0)):=by
  have q:=η (w.alloc (γ #[σ a n c] 45)) (γ #[τ ds,σ ac dn cc,σ (ς ⟨bR,offR,ν⟩) dr cr] 100);rw [ω] at q;exact AC (AC q (AE _ _)) (AE _ _)
 have hq2:((((w.alloc (γ #[σ a n c] 45)).alloc (γ #[τ ds,σ ac dn cc,σ (ς ⟨bR,offR,ν⟩) dr cr] 100)).alloc (γ #[ι κ k0,τ tb,σ a2 n2 c2,σ a3 n3 c3,τ col,σ a5 n5 c5,σ a6 n6 c6,σ a7 n7 c7] 64)).alloc (γ #[σ ν 0 0] 45)).heap[w.heap.size+1+1]?=ς (γ #[ι κ k0,τ tb,σ a2 n2 c2,σ a3 n3 c3,τ col,σ a5 n5 c5,σ a6 n6 c6,σ a7 n7 c7] 64 (0,0)):=by
  have q:=η ((w.alloc (γ #[σ a n c] 45)).alloc (γ #[τ ds,σ ac dn cc,σ (ς ⟨bR,offR,ν⟩) dr cr] 100)) (γ #[ι κ k0,τ tb,σ a2 n2 c2,σ a3 n3 c3,τ col,σ a5 n5 c5,σ a6 n6 c6,σ a7 n7 c7] 64);rw [ω,ω] at q;exact AC q (AE _ _)
 have hq3:((((w.alloc (γ #[σ a n c] 45)).alloc (γ #[τ ds,σ ac dn cc,σ (ς ⟨bR,offR,ν⟩) dr cr] 100)).alloc (γ #[ι κ k0,τ tb,σ a2 n2 c2,σ a3 n3 c3,τ col,σ a5 n5 c5,σ a6 n6 c6,σ a7 n7 c7] 64)).alloc (γ #[σ ν 0 0] 45)).heap[w.heap.size+1+1+1]?=ς (γ #[σ ν 0 0] 45 (0,0)):=by
  have q:=η (((w.alloc (γ #[σ a n c] 45)).alloc (γ #[τ ds,σ ac dn cc,σ (ς ⟨bR,offR,ν⟩) dr cr] 100)).alloc (γ #[ι κ k0,τ tb,σ a2 n2 c2,σ a3 n3 c3,τ col,σ a5 n5 c5,σ a6 n6 c6,σ a7 n7 c7] 64)) (γ #[σ ν 0 0] 45);rw [ω,ω,ω] at q;exact q
 obtain⟨p0,-⟩:=AN hq0;obtain⟨p1,p2,p3,-⟩:=AX hq1;obtain⟨-,-,-,p4,-⟩:=Ak hq2;by_cases hnn:n3=dn
 rotate_left
 ·
  have n0:((n3:Int) != dn)=true:=by simp;omega
  have HA:Hid (Iv T n ds dn dC dr dm dR n3 V=(C8 T n,4)):=by show _=_;unfold Iv;rw [if_pos (by unfold Bz;simp [hnn])]
  clear hnn;go_enter Tryz.func75,Tryz.ntmps75
  go_wp2_with (first | (go_at_call 74;refine(CQ a n c T _ (h.later (hbU)) (by omega) HF.out).mono ?_;rintro e w2 ⟨a8,c8,rfl,hL8,hb8⟩;have s2:=AC hq3 hb8;obtain⟨z2,f2⟩:=AN s2))
  refine XL (AF Tryz.results75 _ _ (w.heap.size+1+1+1) 45 _ (0,0) _ rfl (CA s2 _) Tryz.underlying45 rfl (by kernel_rfl)) rfl ?_;rw [HA.out];exact BI hbU hL8 hb8 (by omega) (by omega) _
 subst hnn;obtain⟨b2,off2,rfl,-⟩:=hC 0 hn0;obtain⟨b3,off3,rfl,-⟩:=hV 0 hn0;go_enter Tryz.func75,Tryz.ntmps75
 go_wp2;go_loopw [8,9,24] (λ_ _ i wr=>∃ k:Nat,k<=n3/\i=ι κ k/\(∀ j,j<k->(V j).o=(dC j).t)/\υ ((((w.alloc (γ #[σ a n c] 45)).alloc (γ #[τ ds,σ (ς ⟨b2,off2,ν⟩) n3 cc,σ (ς ⟨bR,offR,ν⟩) dr cr] 100)).alloc (γ #[ι κ k0,τ tb,σ a2 n2 c2,σ (ς ⟨b3,off3,ν⟩) n3 c3,τ col,σ a5 n5 c5,σ a6 n6 c6,σ a7 n7 c7] 64)).alloc (γ #[σ ν 0 0] 45)).heap.size ((((w.alloc (γ #[σ a n c] 45)).alloc (γ #[τ ds,σ (ς ⟨b2,off2,ν⟩) n3 cc,σ (ς ⟨bR,offR,ν⟩) dr cr] 100)).alloc (γ #[ι κ k0,τ tb,σ a2 n2 c2,σ (ς ⟨b3,off3,ν⟩) n3 c3,τ col,σ a5 n5 c5,σ a6 n6 c6,σ a7 n7 c7] 64)).alloc (γ #[σ ν 0 0] 45)) wr) (λ_ _ i _=>n3 - (XX i).toNat)
 case atStart=>exact⟨0,XZ _,rfl,λj hj=>by omega,Xa _ _⟩
 case round=>
  obtain⟨k,hk,rfl,hty,hbr⟩:=hrel;have HTY:Hid (∀ j,j<k->(V j).o=(dC j).t):=hty;clear hty;have q0:=AC hq0 hbr;have q1:=AC hq1 hbr;have q2:=AC hq2 hbr;have q3:=AC hq3 hbr;obtain⟨u0,-⟩:=AN q0;obtain⟨u1,u2,u3,uf1,uf2,uf3⟩:=AX q1;obtain⟨-,-,-,u4,-⟩:=Ak q2;have hbw:=AA hbU hbr;have hsr:=hbr.size;by_cases hlt:k<n3
  ·
   obtain⟨b5,off5,e5,x0,x1,x2,-⟩:=hV.later hbw k hlt;obtain⟨rfl,rfl⟩:b3=b5/\off3=off5:=by simpa using e5
   obtain⟨b6,off6,e6,y0,y1,-⟩:=hC.later hbw k hlt;obtain⟨rfl,rfl⟩:b2=b6/\off2=off6:=by simpa using e6
   clear e5 e6;have hkn:(k:Int)<n3:=by omega
   have hk0:(0:Int)<=k:=by omega
   obtain⟨t3,ht3⟩:∃ t,(V k).o=t:=⟨_,rfl⟩;obtain⟨t4,ht4⟩:∃ t,(dC k).t=t:=⟨_,rfl⟩;rw [ht3] at x0;rw [ht4] at y1;have HE:Hid ((V k).o=t3/\(dC k).t=t4):=⟨ht3,ht4⟩;clear ht3 ht4;have w2_:=AB (AE wr (γ #[ι κ t3,ι κ (V k).m,τ (V k).s] 94)) u2;have w3_:=AB (AE wr (γ #[ι κ t3,ι κ (V k).m,τ (V k).s] 94)) y1;have w4_:=(AX (η wr (γ #[ι κ t3,ι κ (V k).m,τ (V k).s] 94))).1;go_upto_region 6 with (fail)
   refine XO (S:=λx=>υ (wr.alloc (γ #[ι κ t3,ι κ (V k).m,τ (V k).s] 94)).heap.size (wr.alloc (γ #[ι κ t3,ι κ (V k).m,τ (V k).s] 94)) x) (by kernel_rfl) (BC _) (λjH=>?_);refine tk 0 (⟨ς 29,.fieldAddr 94 (δ 9) 0,0,"l5_replay.go:281",#[],ν⟩:Oper) (λx jS=>by go_simp<;>rfl) jH ?_
   try simp only [zS]
   refine tk 1 (⟨ς 30,.load 3 (δ 29),3,"l5_replay.go:281",#[⟨0,φ⟩],ν⟩:Oper) (λx jS=>by have k0:=AB jS w2_;have k1:=AB jS w3_;have k2:=AB jS w4_;go_simp<;>rfl) jH ?_
   try simp only [zS]
   refine tk 2 (⟨ς 31,.fieldAddr 100 (δ 4) 1,0,"l5_replay.go:281",#[],ν⟩:Oper) (λx jS=>by go_simp<;>rfl) jH ?_
   try simp only [zS]
   refine tk 3 (⟨ς 32,.load 59 (δ 31),59,"l5_replay.go:281",#[⟨2,φ⟩],ν⟩:Oper) (λx jS=>by have k0:=AB jS w2_;have k1:=AB jS w3_;have k2:=AB jS w4_;go_simp<;>rfl) jH ?_
   try simp only [zS]
   refine tk 4 (⟨ς 33,.move (δ 8),3,"l5_replay.go:281",#[],ν⟩:Oper) (λx jS=>by go_simp<;>rfl) jH ?_
   try simp only [zS]
   refine tk 5 (⟨ς 34,.indexAddr 59 (δ 32) (δ 33),0,"l5_replay.go:281",#[⟨3,φ⟩,⟨4,φ⟩],ν⟩:Oper) (λx jS=>by go_simp<;>rfl) jH ?_
   try simp only [zS]
   refine tk 6 (⟨ς 35,.fieldAddr 92 (δ 34) 1,0,"l5_replay.go:281",#[⟨5,φ⟩],ν⟩:Oper) (λx jS=>by go_simp<;>rfl) jH ?_
   try simp only [zS]
   refine tk 7 (⟨ς 36,.load 3 (δ 35),3,"l5_replay.go:281",#[⟨6,φ⟩],ν⟩:Oper) (λx jS=>by have k0:=AB jS w2_;have k1:=AB jS w3_;have k2:=AB jS w4_;go_simp<;>rfl) jH ?_
   try simp only [zS]
   refine tk 8 (⟨ς 37,.binOp .neq 3 (δ 30) (δ 36) 3,4,"l5_replay.go:281",#[⟨1,φ⟩,⟨7,φ⟩],ν⟩:Oper) (λx jS=>by go_simp<;>rfl) jH ?_
   try simp only [zS]
   refine XW (by kernel_rfl) ?_ _;have hb5:=AA (AE wr (γ #[ι κ t3,ι κ (V k).m,τ (V k).s] 94)) jH;generalize (wr.alloc (γ #[ι κ t3,ι κ (V k).m,τ (V k).s] 94)).drew=w5 at hb5 ⊢;clear jH;by_cases ht:t3=t4
   ·
    subst ht;go_wp2;go_roundw
    case rel=>exact⟨k+1,by omega,by go_num,λj hj=>by
     by_cases e:j=k
     · rw [e,HE.out.1,HE.out.2]
     · exact HTY.out j (by omega),AA hbr hb5⟩
    case measure=>simp [XX];omega
   ·
    have n1:(t3 != t4)=true:=by simpa using ht
    have HA:Hid (Iv T n ds n3 dC dr dm dR n3 V=(C8 T n,4)):=by show _=_;unfold Iv;rw [if_pos (LT hlt (by rw [HE.out.1,HE.out.2];exact ht))]
    clear ht;have s0:=AC q0 hb5;have s1:=AC q3 hb5;obtain⟨z0,-⟩:=AN s0;have hs5:=hb5.size;go_wp2_with (first | (go_at_call 74;refine(CQ a n c T _ (h.later (AA hbw hb5)) (by omega) HF.out).mono ?_;rintro e w2 ⟨a8,c8,rfl,hL8,hb8⟩;have s2:=AC s1 hb8;obtain⟨z2,f2⟩:=AN s2))
    refine XL (AF Tryz.results75 _ _ (w.heap.size+1+1+1) 45 _ (0,0) _ rfl (CA s2 _) Tryz.underlying45 rfl (by kernel_rfl)) rfl ?_;rw [HA.out];exact BI (AA hbw hb5) hL8 hb8 (by omega) (by omega) _
  ·
   obtain rfl:k=n3:=by omega
   have HTB:Hid (Bz k k V dC=true):=Ki HTY.out;obtain⟨p,hp⟩:∃ p,Dg dR (V 0).m (V 0).s dr=p:=⟨_,rfl⟩;have HP:Hid (Dg dR (V 0).m (V 0).s dr=p):=hp;have hpl:p<=dr:=by rw [←hp];exact Gv
   clear hp;have HPut:=Wa bR offR dr cr dm dR (ς ⟨b3,off3,ν⟩) k c3 V w wr hR hV hbw hn0 hn1 (λj hj=>by rw [HN.out.len j hj];exact hn0) hr1 hcr p HP.out;by_cases hit:p<dr/\BP (dR p 0).m (dR p 0).s (V 0).m (V 0).s=0
   ·
    have HIT:Hid (p<dr/\BP (dR p 0).m (dR p 0).s (V 0).m (V 0).s=0):=hit;have HA:Hid (Iv T n ds k dC dr dm dR k V=(C8 T n,5)):=by show _=_;unfold Iv;rw [HTB.out,HP.out,if_neg (by simp),if_pos hit]
    clear hit;go_wp2_with (first | (go_at_call 133;refine HPut.mono ?_;intro e w5 hA5;obtain⟨rfl,hb5⟩:=hA5.yes HIT.out;have s0:=AC q0 hb5;have s3:=AC q3 hb5;obtain⟨z0,-⟩:=AN s0) | (go_at_call 74;refine(CQ a n c T _ (h.later (AA hbw hb5)) (by omega) HF.out).mono ?_;rintro e w2 ⟨a8,c8,rfl,hL8,hb8⟩;have s2:=AC s3 hb8;obtain⟨z2,f2⟩:=AN s2))
    refine XL (AF Tryz.results75 _ _ (w.heap.size+1+1+1) 45 _ (0,0) _ rfl (CA s2 _) Tryz.underlying45 rfl (by kernel_rfl)) rfl ?_;rw [HA.out];exact BI (AA hbw hb5) hL8 hb8 (by omega) (by have:=hb5.size;omega) _
   ·
    have HIT:Hid (¬(p<dr/\BP (dR p 0).m (dR p 0).s (V 0).m (V 0).s=0)):=hit;by_cases h1000:dr=1000
    ·
     subst h1000;have HA:Hid (Iv T n ds k dC 1000 dm dR k V=(C8 T n,6)):=by show _=_;unfold Iv;rw [HTB.out,HP.out,if_neg (by simp),if_neg hit,if_pos rfl]
     clear hit;go_wp2_with (first | (go_at_call 133;refine HPut.mono ?_;intro e w5 hA5;obtain⟨g,cap,f,rfl,hRO,hb5⟩:=hA5.no HIT.out;have s0:=AC q0 hb5;have s1:=AC q1 hb5;have s3:=AC q3 hb5;obtain⟨z0,-⟩:=AN s0;obtain⟨y1,y2,y3,yf1,yf2,yf3⟩:=AX s1) | (go_at_call 74;refine(CQ a n c T _ (h.later (AA hbw hb5)) (by omega) HF.out).mono ?_;rintro e w2 ⟨a8,c8,rfl,hL8,hb8⟩;have s2:=AC s3 hb8;obtain⟨z2,f2⟩:=AN s2))
     refine XL (AF Tryz.results75 _ _ (w.heap.size+1+1+1) 45 _ (0,0) _ rfl (CA s2 _) Tryz.underlying45 rfl (by kernel_rfl)) rfl ?_;rw [HA.out];exact BI (AA hbw hb5) hL8 hb8 (by omega) (by have:=hb5.size;omega) _
    ·
     have n1000:((dr:Int) == 1000)=false:=by simp;omega
     have HA:Hid (Iv T n ds k dC dr dm dR k V=(D8 T (TB ds k dC dr dm dR k V p) n,0)):=by show _=_;unfold Iv;rw [HTB.out,HP.out,if_neg (by simp),if_neg hit,if_neg h1000]
     clear hit h1000;have HAM:Hid (∀ i,i<dr+1->(DM dm dR (k,V) p i).1=k/\∀ j,j<k->((DM dm dR (k,V) p i).2 j).s.size<=1048576):=Ms (P:=λx=>x.1=k/\∀ j,j<k->(x.2 j).s.size<=1048576) hpl (λj hj=>⟨HN.out.len j hj,λq hq=>by have:=HN.out.txt j hj q hq;show (dR j q).s.size<=_;omega⟩) ⟨rfl,hVs⟩;have HSM:Hid (Sm3 (TB ds k dC dr dm dR k V p)):=⟨hds,⟨hn1,λj hj=>by obtain⟨_,_,_,_,_,hz⟩:=hC j hj;exact hz⟩,⟨by show dr+1<=_;omega,λj hj=>⟨by show (DM dm dR (k,V) p j).1<=_;rw [(HAM.out j hj).1];exact hn1,λq hq=>(HAM.out j hj).2 q (by rw [←(HAM.out j hj).1];exact hq)⟩⟩⟩;have HNN:Hid (0<(TB ds k dC dr dm dR k V p).n/\∀ i,i<(TB ds k dC dr dm dR k V p).r->0<(TB ds k dC dr dm dR k V p).m i):=⟨hn0,λi hi=>by show 0<(DM dm dR (k,V) p i).1;rw [(HAM.out i hi).1];exact hn0⟩;go_wp2_with (first | (go_at_call 132;refine(EZ a n c T ds k dC (dr+1) (λi=>(DM dm dR (k,V) p i).1) (λi=>(DM dm dR (k,V) p i).2) (ς ⟨b2,off2,ν⟩) cc (ς ⟨g,0,ν⟩) cap (TB ds k dC dr dm dR k V p) rfl _ (h.later hbY) (hC.later hbY) hOL HSM.out hn HF.out HNN.out).mono ?_;rintro e w2 ⟨a8,c8,rfl,hL8,hb8⟩;have s2:=AC q3Y hb8;obtain⟨z2,f2⟩:=AN s2) | (go_at_call 133;refine HPut.mono ?_;intro e w5 hA5;obtain⟨g,cap,f,rfl,hRO,hb5⟩:=hA5.no HIT.out;have s0:=AC q0 hb5;have s1:=AC q1 hb5;have s3:=AC q3 hb5;obtain⟨y1,y2,y3,yf1,yf2,yf3⟩:=AX s1;have hbY:υ w.heap.size w (w5.setCell ⟨w.heap.size+1,2,ν⟩ (σ (ς ⟨g,0,ν⟩) (dr+1) cap)):=Al (AA hbw hb5) (by omega);have hsY:(w5.setCell ⟨w.heap.size+1,2,ν⟩ (σ (ς ⟨g,0,ν⟩) (dr+1) cap)).heap.size=w5.heap.size:=Xl _ _ _;have qY:(w5.setCell ⟨w.heap.size+1,2,ν⟩ (σ (ς ⟨g,0,ν⟩) (dr+1) cap)).heap[w.heap.size+1]?=ς (γ #[τ ds,σ (ς ⟨b2,off2,ν⟩) k cc,σ (ς ⟨g,0,ν⟩) (dr+1) cap] 100 (0,0)):=π _ _ 2 _ _ _ s1;obtain⟨o1,o2,o3,-⟩:=AX qY;obtain⟨o0,-⟩:=AN (AS (i:=2) (v:=σ (ς ⟨g,0,ν⟩) (dr+1) cap) s0 (show w.heap.size≠w.heap.size+1 by omega));have q3Y:=AS (B:=w.heap.size+1) (i:=2) (v:=σ (ς ⟨g,0,ν⟩) (dr+1) cap) s3 (by omega);obtain⟨aO,cO,eO,hOL⟩:=RO.ol (hRO.set (B:=w.heap.size+1) (i:=2) (u:=σ (ς ⟨g,0,ν⟩) (dr+1) cap) (by omega) (by omega));obtain⟨rfl,rfl⟩:ς ⟨g,0,ν⟩=aO/\cap=cO:=(by simpa using eO)))
     refine XL (AF Tryz.results75 _ _ (w.heap.size+1+1+1) 45 _ (0,0) _ rfl (CA s2 _) Tryz.underlying45 rfl (by kernel_rfl)) rfl ?_;rw [HA.out];exact Cm hbY hL8 hb8 (by omega) (by have:=hb5.size;omega) 0
def JC(x y:Rw):Int:=BP (x.2 0).m (x.2 0).s (y.2 0).m (y.2 0).s
def EQ:Nat->List Rw->List Rw->List Rw
 | 0,_,_=>[]
 | _+1,[],[]=>[]
 | s+1,x :: a,[]=>x :: EQ s a []
 | s+1,[],y :: b=>y :: EQ s [] b
 | s+1,x :: a,y :: b=>if JC x y<=0 then x :: EQ s a (y :: b) else y :: EQ s (x :: a) b
def It:Nat->List Rw->List Rw
 | 0,L=>L
 | f+1,L=>if L.length<2 then L else EQ L.length (It f (L.take (L.length / 2))) (It f (L.drop (L.length / 2)))
theorem Eh:∀ (s:Nat) (a b:List Rw),a.length+b.length=s->(EQ s a b).length=s
 | 0,[],[],_=>rfl
 | 0,_ :: _,_,h=>by simp at h
 | 0,[],_ :: _,h=>by simp at h
 | s+1,[],[],h=>by simp at h
 | s+1,x :: a,[],h=>by
  simp only [List.length_cons,List.length_nil] at h
  rw [EQ,List.length_cons,Eh s a [] (by simp;omega)]
 | s+1,[],y :: b,h=>by
  simp only [List.length_cons,List.length_nil] at h
  rw [EQ,List.length_cons,Eh s [] b (by simp;omega)]
 | s+1,x :: a,y :: b,h=>by
  simp only [List.length_cons] at h
  rw [EQ];split
  · rw [List.length_cons,Eh s a (y :: b) (by simp;omega)]
  · rw [List.length_cons,Eh s (x :: a) b (by simp;omega)]
theorem EW:∀ (f:Nat) (L:List Rw),(It f L).length=L.length
 | 0,L=>rfl
 | f+1,L=>by
  rw [It];split
  · rfl
  · rw [Eh];rw [EW f,EW f,Xf,List.length_drop];omega
theorem Eg{P:Rw->Prop}:∀ (s:Nat) (a b:List Rw),(∀ x∈a,P x)->(∀ x∈b,P x)->∀ x∈EQ s a b,P x
 | 0,_,_,_,_,x,hx=>by simp [EQ] at hx
 | s+1,[],[],_,_,x,hx=>by simp [EQ] at hx
 | s+1,y :: a,[],ha,hb,x,hx=>by
  rw [EQ,List.mem_cons] at hx;rcases hx with rfl | hx
  · exact ha _ (by simp)
  · exact Eg s a [] (λz hz=>ha z (by simp [hz])) hb x hx
 | s+1,[],y :: b,ha,hb,x,hx=>by
  rw [EQ,List.mem_cons] at hx;rcases hx with rfl | hx
  · exact hb _ (by simp)
  · exact Eg s [] b ha (λz hz=>hb z (by simp [hz])) x hx
 | s+1,y :: a,z :: b,ha,hb,x,hx=>by
  rw [EQ] at hx;split at hx <;> rw [List.mem_cons] at hx <;> rcases hx with rfl | hx
  · exact ha _ (by simp)
  · exact Eg s a (z :: b) (λq hq=>ha q (by simp [hq])) hb x hx
  · exact hb _ (by simp)
  · exact Eg s (y :: a) b ha (λq hq=>hb q (by simp [hq])) x hx
theorem EV{P:Rw->Prop}:∀ (f:Nat) (L:List Rw),(∀ x∈L,P x)->∀ x∈It f L,P x
 | 0,L,h,x,hx=>h x hx
 | f+1,L,h,x,hx=>by
  rw [It] at hx;split at hx
  · exact h x hx
  · exact Eg _ _ _ (EV f _ (λz hz=>h z (List.mem_of_mem_take hz))) (EV f _ (λz hz=>h z (List.mem_of_mem_drop hz))) x hx
theorem VY{A B:List Rw}{i j:Nat}(hi:i<A.length)(h:j=B.length∨(j<B.length/\JC (A.getD i r0) (B.getD j r0)<=0)):EQ (A.length - i+(B.length - j)) (A.drop i) (B.drop j)=A.getD i r0 :: EQ (A.length - (i+1)+(B.length - j)) (A.drop (i+1)) (B.drop j):=by
 have eA:A.drop i=A.getD i r0 :: A.drop (i+1):=by
  rw [List.drop_eq_getElem_cons hi];simp [hi]
 rcases h with rfl | ⟨hj,hc⟩
 · rw [List.drop_length,eA,show A.length - i+(B.length - B.length)=(A.length - (i+1)+(B.length - B.length))+1 from by omega,EQ]
 ·
  have eB:B.drop j=B.getD j r0 :: B.drop (j+1):=by
   rw [List.drop_eq_getElem_cons hj];simp [hj]
  rw [eA,eB,show A.length - i+(B.length - j)=(A.length - (i+1)+(B.length - j))+1 from by omega,EQ,if_pos hc]
theorem VX{A B:List Rw}{i j:Nat}(hj:j<B.length)(h:i=A.length∨(i<A.length/\¬JC (A.getD i r0) (B.getD j r0)<=0)):EQ (A.length - i+(B.length - j)) (A.drop i) (B.drop j)=B.getD j r0 :: EQ (A.length - i+(B.length - (j+1))) (A.drop i) (B.drop (j+1)):=by
 have eB:B.drop j=B.getD j r0 :: B.drop (j+1):=by
  rw [List.drop_eq_getElem_cons hj];simp [hj]
 rcases h with rfl | ⟨hi,hc⟩
 · rw [List.drop_length,eB,show A.length - A.length+(B.length - j)=(A.length - A.length+(B.length - (j+1)))+1 from by omega,EQ]
 ·
  have eA:A.drop i=A.getD i r0 :: A.drop (i+1):=by
   rw [List.drop_eq_getElem_cons hi];simp [hi]
  rw [eA,eB,show A.length - i+(B.length - j)=(A.length - i+(B.length - (j+1)))+1 from by omega,EQ,if_neg hc]
def OD(D:Nat->Prop)(w:ο)(a:Option Addr)(A:List Rw):Prop:=
 ∀ k,k<A.length->∃ b off i c,a=ς ⟨b,off,ν⟩/\D b/\w.cell? ⟨b,off+k,ν⟩=ς (σ i (A.getD k r0).1 c)/\Liv D w (ER [σ i (A.getD k r0).1 c] (A.getD k r0))
theorem OD.later{D:Nat->Prop}{w w':ο}{a:Option Addr}{A:List Rw}(h:OD D w a A)(hb:υ w.heap.size w w'):OD D w' a A:=λk hk=>by
 obtain⟨b,off,i,c,e,hd,c0,hl⟩:=h k hk;exact⟨b,off,i,c,e,hd,AB hb c0,hl.later hb⟩
theorem OD.cut{D:Nat->Prop}{w:ο}{a:Option Addr}{A:List Rw}(h:OD D w a A):OD (λb=>D b/\b<w.heap.size) w a A:=λk hk=>by
 obtain⟨b,off,i,c,e,hd,c0,hl⟩:=h k hk;exact⟨b,off,i,c,e,⟨hd,World.block_lt_of_cell? w _ c0⟩,c0,hl.wide (λb hx hs=>⟨hx,hs⟩)⟩
theorem OD.wide{D D':Nat->Prop}{w:ο}{a:Option Addr}{A:List Rw}(h:OD D w a A)(hD:∀ b,D b->D' b):OD D' w a A:=λk hk=>by
 obtain⟨b,off,i,c,e,hd,c0,hl⟩:=h k hk;exact⟨b,off,i,c,e,hD _ hd,c0,hl.wide (λb hx _=>hD b hx)⟩
theorem OD.set{D:Nat->Prop}{w:ο}{a:Option Addr}{A:List Rw}{B i:Nat}{v:XU}(h:OD D w a A)(hB:¬D B):OD D (w.setCell ⟨B,i,ν⟩ v) a A:=λk hk=>by
 obtain⟨b,off,j,c,e,hd,c0,hl⟩:=h k hk;refine⟨b,off,j,c,e,hd,?_,hl.set hB⟩;rw [World.cell?_setCell_far _ _ _ _ (show B≠b from λe=>hB (by rw [e];exact hd))]
 exact c0
theorem OD.take{D:Nat->Prop}{w:ο}{a:Option Addr}{A:List Rw}(h:OD D w a A)(n:Nat):OD D w a (A.take n):=λk hk=>by
 rw [Xf] at hk;obtain⟨b,off,i,c,e,hd,c0,hl⟩:=h k (by omega);have e2:(A.take n).getD k r0=A.getD k r0:=by simp [show k<n from by omega]
 rw [e2];exact⟨b,off,i,c,e,hd,c0,hl⟩
theorem OD.drop{D:Nat->Prop}{w:ο}{b off:Nat}{A:List Rw}(h:OD D w (ς ⟨b,off,ν⟩) A)(n:Nat):OD D w (ς ⟨b,off+n,ν⟩) (A.drop n):=λk hk=>by
 rw [List.length_drop] at hk;obtain⟨b',off',i,c,e,hd,c0,hl⟩:=h (n+k) (by omega);obtain⟨rfl,rfl⟩:b=b'/\off=off':=by simpa using e
 have e2:(A.drop n).getD k r0=A.getD (n+k) r0:=by simp
 rw [e2];exact⟨b,off+n,i,c,rfl,hd,by rw [Nat.add_assoc];exact c0,hl⟩
theorem OD.ol{D:Nat->Prop}{w:ο}{a:Option Addr}{A:List Rw}(h:OD D w a A):OL w a A.length (λi=>(A.getD i r0).1) (λi=>(A.getD i r0).2):=λk hk=>by
 obtain⟨b,off,i,c,e,-,c0,hl⟩:=h k hk;obtain⟨a2,c2,e2,hI,hs⟩:=hl.now;simp only [List.cons.injEq,and_true,Value.slice.injEq,true_and] at e2
 obtain⟨rfl,rfl⟩:=e2;exact⟨b,off,i,c,e,c0,hI,hs⟩
theorem RO.od{G:Nat}{D D':Nat->Prop}{w:ο}{v:XU}{A:List Rw}{f:Nat->List XU}(h:RO G D w v A.length (λi=>A.getD i r0) f)(h1:∀ b,D b->D' b)(h2:∀ b,G<=b->D' b):∃ a c,v=σ a A.length c/\OD D' w a A:=by
 rcases Cx h.own with ⟨rfl,e0⟩ | ⟨g,cap,rfl⟩
 · refine⟨ν,0,by rw [e0],λk hk=>by omega⟩
 · refine⟨ς ⟨g,0,ν⟩,cap,rfl,λk hk=>?_⟩;have hg:=(h.own.lt g rfl).1;have hl:=h.liv k hk;obtain⟨a,c,e,hI,hs⟩:=hl.now;have:=h.cell (j:=0) hk (by omega);rw [e] at this hl;refine⟨g,0,a,c,rfl,h2 g hg,?_,hl.wide (λb hx _=>h1 b hx.1)⟩;rw [XT];simpa using this
