import Derived.Test.YtfnfdllflgmhnaaGreatDoorUm
open Go renaming Calls → XR, Value → XU, World → ο, bodyPost_ret → XL, heap_alloc_new → η, results_tmp2 → Xg, wpAnyH_done → XW, wpList_append_lies → XY, wp_region_held_drew → XO
open Go.Ending renaming returned → ρ
open Go.Ground renaming data → φ
open Go.IntKind renaming i64 → κ
open Go.Obj renaming cells → γ
open Go.Operand renaming tmp → δ
open Go.Proofs.Tryz renaming prog → μ
open Go.RowKit renaming Below → υ, intOf → XX
open Go.RowKit.Below renaming refl → Xa
open Go.Value renaming bool → β, int → ι, slice → σ, tuple → θ
open Go.World renaming news_of_block → XP, ownsRow_made → Xb
open Nat renaming add_zero → Xm, zero_add → XT, zero_le → XZ
open Option renaming none → ν, some → ς
open Option.some renaming inj → XM
open Or renaming inl → Xc, inr → Xi
namespace Go.Proofs.YtfnfdllflgmhnaaGreatDoor
open Go.RowKit Go.Maps Go.WideMaps
set_option maxRecDepth 20000
set_option maxHeartbeats 16000000
abbrev U3:Oper:=⟨ς 8,.move (δ 6),3,"l5_replay.go:250",#[],ν⟩
abbrev U2:Oper:=⟨ς 9,.move (δ 0),36,"l5_replay.go:250",#[],ν⟩
abbrev U1:Oper:=⟨ς 10,.call ⟨.builtin .len,#[δ 9],#[36]⟩,3,"l5_replay.go:250",#[⟨1,φ⟩],ν⟩
abbrev U0:Oper:=⟨ς 11,.binOp .lss 3 (δ 8) (δ 10) 3,4,"l5_replay.go:250",#[⟨0,φ⟩,⟨2,φ⟩],ν⟩
abbrev Uz:Oper:=⟨ς 12,.move (δ 11),4,"l5_replay.go:250",#[⟨3,φ⟩],ν⟩
abbrev Uy:Oper:=⟨ς 13,.move (δ 0),36,"l5_replay.go:250",#[⟨4,.guard⟩],ς (4,true)⟩
abbrev Ux:Oper:=⟨ς 14,.move (δ 6),3,"l5_replay.go:250",#[⟨4,.guard⟩],ς (4,true)⟩
abbrev Uw:Oper:=⟨ς 15,.indexAddr 36 (δ 13) (δ 14),0,"l5_replay.go:250",#[⟨5,φ⟩,⟨6,φ⟩,⟨4,.guard⟩],ς (4,true)⟩
abbrev Uv:Oper:=⟨ς 16,.load 60 (δ 15),60,"l5_replay.go:250",#[⟨7,φ⟩,⟨4,.guard⟩],ς (4,true)⟩
abbrev Uu:Oper:=⟨ς 17,.indexAddr 60 (δ 16) (.const (ι κ 0)),0,"l5_replay.go:250",#[⟨8,φ⟩,⟨4,.guard⟩],ς (4,true)⟩
abbrev Qr:Oper:=⟨ς 18,.load 94 (δ 17),94,"l5_replay.go:250",#[⟨9,φ⟩,⟨4,.guard⟩],ς (4,true)⟩
abbrev Qq:Oper:=⟨ς 19,.move (δ 1),60,"l5_replay.go:250",#[⟨4,.guard⟩],ς (4,true)⟩
abbrev Qp:Oper:=⟨ς 20,.indexAddr 60 (δ 19) (.const (ι κ 0)),0,"l5_replay.go:250",#[⟨11,φ⟩,⟨4,.guard⟩],ς (4,true)⟩
abbrev Qo:Oper:=⟨ς 21,.load 94 (δ 20),94,"l5_replay.go:250",#[⟨12,φ⟩,⟨4,.guard⟩],ς (4,true)⟩
abbrev Qn:Oper:=⟨ς 22,.call ⟨.value (.func 135),#[δ 18,δ 21],#[94,94]⟩,3,"l5_replay.go:250",#[⟨10,φ⟩,⟨13,φ⟩,⟨4,.chain⟩,⟨4,.guard⟩],ς (4,true)⟩
abbrev Qm:Oper:=⟨ς 23,.binOp .lss 3 (δ 22) (.const (ι κ 0)) 3,4,"l5_replay.go:250",#[⟨14,φ⟩,⟨4,.guard⟩],ς (4,true)⟩
abbrev Ql:Oper:=⟨ς 24,.pick (δ 12) (δ 23) (.const (β false)),4,"l5_replay.go:250",#[⟨4,φ⟩,⟨15,φ⟩],ν⟩
abbrev Qk:Oper:=⟨ς 27,.move (δ 6),3,"l5_replay.go:253",#[],ν⟩
abbrev Qj:Oper:=⟨ς 28,.move (δ 0),36,"l5_replay.go:253",#[],ν⟩
abbrev Qi:Oper:=⟨ς 29,.call ⟨.builtin .len,#[δ 28],#[36]⟩,3,"l5_replay.go:253",#[⟨1,φ⟩],ν⟩
abbrev Qh:Oper:=⟨ς 30,.binOp .lss 3 (δ 27) (δ 29) 3,4,"l5_replay.go:253",#[⟨0,φ⟩,⟨2,φ⟩],ν⟩
abbrev Qg:Oper:=⟨ς 31,.move (δ 30),4,"l5_replay.go:253",#[⟨3,φ⟩],ν⟩
abbrev Qf:Oper:=⟨ς 32,.move (δ 0),36,"l5_replay.go:253",#[⟨4,.guard⟩],ς (4,true)⟩
abbrev Qe:Oper:=⟨ς 33,.move (δ 6),3,"l5_replay.go:253",#[⟨4,.guard⟩],ς (4,true)⟩
abbrev Qd:Oper:=⟨ς 34,.indexAddr 36 (δ 32) (δ 33),0,"l5_replay.go:253",#[⟨5,φ⟩,⟨6,φ⟩,⟨4,.guard⟩],ς (4,true)⟩
abbrev Qc:Oper:=⟨ς 35,.load 60 (δ 34),60,"l5_replay.go:253",#[⟨7,φ⟩,⟨4,.guard⟩],ς (4,true)⟩
abbrev Qb:Oper:=⟨ς 36,.indexAddr 60 (δ 35) (.const (ι κ 0)),0,"l5_replay.go:253",#[⟨8,φ⟩,⟨4,.guard⟩],ς (4,true)⟩
abbrev Qa:Oper:=⟨ς 37,.load 94 (δ 36),94,"l5_replay.go:253",#[⟨9,φ⟩,⟨4,.guard⟩],ς (4,true)⟩
abbrev QZ:Oper:=⟨ς 38,.move (δ 1),60,"l5_replay.go:253",#[⟨4,.guard⟩],ς (4,true)⟩
abbrev QY:Oper:=⟨ς 39,.indexAddr 60 (δ 38) (.const (ι κ 0)),0,"l5_replay.go:253",#[⟨11,φ⟩,⟨4,.guard⟩],ς (4,true)⟩
abbrev QX:Oper:=⟨ς 40,.load 94 (δ 39),94,"l5_replay.go:253",#[⟨12,φ⟩,⟨4,.guard⟩],ς (4,true)⟩
abbrev QW:Oper:=⟨ς 41,.call ⟨.value (.func 135),#[δ 37,δ 40],#[94,94]⟩,3,"l5_replay.go:253",#[⟨10,φ⟩,⟨13,φ⟩,⟨4,.chain⟩,⟨4,.guard⟩],ς (4,true)⟩
abbrev QV:Oper:=⟨ς 42,.binOp .eql 3 (δ 41) (.const (ι κ 0)) 3,4,"l5_replay.go:253",#[⟨14,φ⟩,⟨4,.guard⟩],ς (4,true)⟩
abbrev QU:Oper:=⟨ς 43,.pick (δ 31) (δ 42) (.const (β false)),4,"l5_replay.go:253",#[⟨4,φ⟩,⟨15,φ⟩],ν⟩
theorem Gb{w:ο}{b off n:Nat}{q:Nat->List XU}(h1:∀ k,k<n->(q k).length=1)(h3:∀ k,k<n->∀ u,(q k)[0]?=ς u->w.cell? ⟨b,off+k,ν⟩=ς u):∀ j u,(CH q n)[j]?=ς u->w.cell? ((⟨b,off,ν⟩:Addr).add j)=ς u:=by
 refine Hg (sz:=1) (by omega) h1 (P:=λj u=>w.cell? ((⟨b,off,ν⟩:Addr).add j)=ς u) (λi hi j u hu=>?_);have hj:j=0:=by
  obtain⟨hl,-⟩:=List.getElem?_eq_some_iff.1 hu;rw [h1 i hi] at hl;omega
 subst hj;rw [Nat.mul_one,Xm,←GD];exact h3 i hi u hu
theorem Gw{dm:Nat->Nat}{dR:Nat->Nat->Itm}{x:Rw}{k i:Nat}(h:i<k):DM dm dR x k i=(dm i,dR i):=if_pos h
theorem Gy{dm:Nat->Nat}{dR:Nat->Nat->Itm}{x:Rw}{k:Nat}:DM dm dR x k k=x:=by simp [DM]
theorem Gx{dm:Nat->Nat}{dR:Nat->Nat->Itm}{x:Rw}{k i:Nat}:DM dm dR x k (k+1+i)=(dm (k+i),dR (k+i)):=by
 unfold DM;rw [if_neg (by omega),if_neg (by omega),show k+1+i - 1=k+i from by omega]
def PutA(bR offR dr cr:Nat)(dm:Nat->Nat)(dR:Nat->Nat->Itm)(n3:Nat)(V:Nat->Itm)(w0 w:ο)(p:Nat)(e:Ending)(w':ο):Prop:=
 υ w.heap.size w w'/\((p<dr/\BP (dR p 0).m (dR p 0).s (V 0).m (V 0).s=0/\e=ρ (θ #[σ (ς ⟨bR,offR,ν⟩) dr cr,β false]))∨(¬(p<dr/\BP (dR p 0).m (dR p 0).s (V 0).m (V 0).s=0)/\∃ g cap f,e=ρ (θ #[σ (ς ⟨g,0,ν⟩) (dr+1) cap,β true])/\RO w.heap.size (λb=>b<w0.heap.size) w' (σ (ς ⟨g,0,ν⟩) (dr+1) cap) (dr+1) (DM dm dR (n3,V) p) f))
theorem Wa(bR offR dr cr:Nat)(dm:Nat->Nat)(dR:Nat->Nat->Itm)(a3:Option Addr)(n3 c3:Nat)(V:Nat->Itm)(w0 w:ο)(hR:OL w0 (ς ⟨bR,offR,ν⟩) dr dm dR)(hV:IL w0 a3 n3 V)(hb0:υ w0.heap.size w0 w)(h3:0<n3)(h3m:n3<=1048576)(hN:∀ k,k<dr->0<dm k)(hr:dr<=1000000)(hcr:dr<=cr)(p:Nat)(hp:Dg dR (V 0).m (V 0).s dr=p) :
 XR μ 133 #[σ (ς ⟨bR,offR,ν⟩) dr cr,σ a3 n3 c3] w (PutA bR offR dr cr dm dR n3 V w0 w p):=by
 obtain⟨jr,hir,hzr0,hzr1,hzr2⟩:=info_parts Tryz.infoRow;have HIr:Hid (Tryz.prog.info? 60=ς jr):=hir;clear hir;have HP:Hid (Dg dR (V 0).m (V 0).s dr=p):=hp;have hpl:p<=dr:=by rw [←hp];exact Gv
 clear hp;have HNZ:Hid (∀ k,k<dr->0<dm k):=hN;clear hN;obtain⟨b3,off3,rfl,v0,v1,v2,-⟩:=hV 0 h3;rw [Nat.zero_mul,Xm] at v0 v1 v2;obtain⟨vo,vm,vs,hV0⟩:∃ vo vm vs,V 0=⟨vo,vm,vs⟩:=⟨_,_,_,rfl⟩;rw [hV0] at v0 v1 v2 HP;simp only at v0 v1 v2 HP
 have HV0:Hid (V 0=⟨vo,vm,vs⟩):=hV0;clear hV0;have h3i:(0:Int)<n3:=by omega
 have hBb:=hb0.size;go_enter Tryz.func133,Tryz.ntmps133
 go_wp2;go_loopw [6] (λv wr=>∃ k:Nat,k<=dr/\v=ι κ k/\Dg dR vm vs k=k/\υ w.heap.size w wr) (λv _=>dr - (XX v).toNat)
 case atStart=>exact⟨0,XZ _,rfl,rfl,Xa _ _⟩
 case round=>
  obtain⟨k,hk,rfl,hpk,hb⟩:=hrel;have HPK:Hid (Dg dR vm vs k=k):=hpk;clear hpk;have hb00:=AA hb0 hb;have x0:=AB hb00 v0;have x1:=AB hb00 v1;have x2:=AB hb00 v2;have hk0:(0:Int)<=k:=by omega
  by_cases hlt:k<dr
  ·
   obtain⟨b4,off4,ai,ci,e4,d0,hI,-⟩:=hR.later hb00 k hlt;obtain⟨rfl,rfl⟩:bR=b4/\offR=off4:=by simpa using e4
   clear e4;obtain⟨bq,offq,rfl,y0,y1,y2,-⟩:=hI 0 (HNZ.out k hlt);rw [Nat.zero_mul,Xm] at y0 y1 y2;have hmk:(0:Int)<dm k:=by have:=HNZ.out k hlt;omega
   have hmk0:0<dm k:=HNZ.out k hlt;have hkd:(k:Int)<dr:=by omega
   obtain⟨ko,km,ks,hK0⟩:∃ vo vm vs,dR k 0=⟨vo,vm,vs⟩:=⟨_,_,_,rfl⟩;rw [hK0] at y0 y1 y2;simp only at y0 y1 y2
   obtain⟨cz,hcz⟩:∃ cz,BP km ks vm vs=cz:=⟨_,rfl⟩;have HCZ:Hid (BP (dR k 0).m (dR k 0).s vm vs=cz):=by show _=_;rw [hK0];exact hcz
   have hCmp:=λW=>DL ko km ks vo vm vs W;simp only [hcz] at hCmp
   clear hcz hK0;go_upto_region 2 with (fail)
   refine XO (S:=λx=>υ wr.heap.size wr x) (by kernel_rfl) (BC _) (λjH=>?_);refine tk 0 U3 (λx jS=>by go_simp<;>rfl) jH ?_
   try simp only [zS]
   refine tk 1 U2 (λx jS=>by go_simp<;>rfl) jH ?_
   try simp only [zS]
   refine tk 2 U1 (λx jS=>by go_simp<;>rfl) jH ?_
   try simp only [zS]
   refine tk 3 U0 (λx jS=>by go_simp<;>rfl) jH ?_
   try simp only [zS]
   refine tk 4 Uz (λx jS=>by go_simp<;>rfl) jH ?_
   try simp only [zS]
   refine tk 5 Uy (λx jS=>by go_simp<;>rfl) jH ?_
   try simp only [zS]
   refine tk 6 Ux (λx jS=>by go_simp<;>rfl) jH ?_
   try simp only [zS]
   refine tk 7 Uw (λx jS=>by go_simp<;>rfl) jH ?_
   try simp only [zS]
   refine tk 8 Uv (λx jS=>by have k0:=AB jS d0;have k1:=AB jS y0;have k2:=AB jS y1;have k3:=AB jS y2;have k4:=AB jS x0;have k5:=AB jS x1;have k6:=AB jS x2;go_simp<;>rfl) jH ?_
   try simp only [zS]
   refine tk 9 Uu (λx jS=>by go_simp<;>rfl) jH ?_
   try simp only [zS]
   refine tk 10 Qr (λx jS=>by have k0:=AB jS d0;have k1:=AB jS y0;have k2:=AB jS y1;have k3:=AB jS y2;have k4:=AB jS x0;have k5:=AB jS x1;have k6:=AB jS x2;go_simp<;>rfl) jH ?_
   try simp only [zS]
   refine tk 11 Qq (λx jS=>by go_simp<;>rfl) jH ?_
   try simp only [zS]
   refine tk 12 Qp (λx jS=>by go_simp<;>rfl) jH ?_
   try simp only [zS]
   refine tk 13 Qo (λx jS=>by have k0:=AB jS d0;have k1:=AB jS y0;have k2:=AB jS y1;have k3:=AB jS y2;have k4:=AB jS x0;have k5:=AB jS x1;have k6:=AB jS x2;go_simp<;>rfl) jH ?_
   try simp only [zS]
   refine rd 14 Qn (λK hK=>?_);go_simp;refine(hCmp _).mono ?_;rintro e w4 ⟨rfl,hb4⟩;refine hK.out _ _ (AA jH hb4) (λjH=>?_);clear hK K;try simp only [zS]
   refine tk 15 Qm (λx jS=>by go_simp<;>rfl) jH ?_
   try simp only [zS]
   refine tk 16 Ql (λx jS=>by go_simp<;>rfl) jH ?_
   try simp only [zS]
   refine XW (by kernel_rfl) ?_ _;by_cases hc0:cz<0
   ·
    go_wp2;go_roundw
    case rel=>exact⟨k+1,by omega,by go_num,by rw [Dg,if_pos ⟨HPK.out,by rw [HCZ.out];exact hc0⟩],AA hb jH⟩
    case measure=>simp [XX];omega
   ·
    have hpk:p=k:=by rw [←HP.out];exact Ku HPK.out (by rw [HCZ.out];exact hc0) dr hlt
    subst hpk;have hHw:υ wr.heap.size wr w4:=jH;clear jH;go_upto_region 4 with (fail)
    refine XO (S:=λx=>υ wr.heap.size wr x) (by kernel_rfl) (AA hHw (BC _)) (λjH=>?_);refine tk 0 Qk (λx jS=>by go_simp<;>rfl) jH ?_
    try simp only [zS]
    refine tk 1 Qj (λx jS=>by go_simp<;>rfl) jH ?_
    try simp only [zS]
    refine tk 2 Qi (λx jS=>by go_simp<;>rfl) jH ?_
    try simp only [zS]
    refine tk 3 Qh (λx jS=>by go_simp<;>rfl) jH ?_
    try simp only [zS]
    refine tk 4 Qg (λx jS=>by go_simp<;>rfl) jH ?_
    try simp only [zS]
    refine tk 5 Qf (λx jS=>by go_simp<;>rfl) jH ?_
    try simp only [zS]
    refine tk 6 Qe (λx jS=>by go_simp<;>rfl) jH ?_
    try simp only [zS]
    refine tk 7 Qd (λx jS=>by go_simp<;>rfl) jH ?_
    try simp only [zS]
    refine tk 8 Qc (λx jS=>by have k0:=AB jS d0;have k1:=AB jS y0;have k2:=AB jS y1;have k3:=AB jS y2;have k4:=AB jS x0;have k5:=AB jS x1;have k6:=AB jS x2;go_simp<;>rfl) jH ?_
    try simp only [zS]
    refine tk 9 Qb (λx jS=>by go_simp<;>rfl) jH ?_
    try simp only [zS]
    refine tk 10 Qa (λx jS=>by have k0:=AB jS d0;have k1:=AB jS y0;have k2:=AB jS y1;have k3:=AB jS y2;have k4:=AB jS x0;have k5:=AB jS x1;have k6:=AB jS x2;go_simp<;>rfl) jH ?_
    try simp only [zS]
    refine tk 11 QZ (λx jS=>by go_simp<;>rfl) jH ?_
    try simp only [zS]
    refine tk 12 QY (λx jS=>by go_simp<;>rfl) jH ?_
    try simp only [zS]
    refine tk 13 QX (λx jS=>by have k0:=AB jS d0;have k1:=AB jS y0;have k2:=AB jS y1;have k3:=AB jS y2;have k4:=AB jS x0;have k5:=AB jS x1;have k6:=AB jS x2;go_simp<;>rfl) jH ?_
    try simp only [zS]
    refine rd 14 QW (λK hK=>?_);go_simp;refine(hCmp _).mono ?_;rintro e w9 ⟨rfl,hb9⟩;refine hK.out _ _ (AA jH hb9) (λjH=>?_);clear hK K;try simp only [zS]
    refine tk 15 QV (λx jS=>by go_simp<;>rfl) jH ?_
    try simp only [zS]
    refine tk 16 QU (λx jS=>by go_simp<;>rfl) jH ?_
    try simp only [zS]
    refine XW (by kernel_rfl) ?_ _;have hbt:=AA hb jH;clear jH;by_cases hc1:cz=0
    ·
     subst hc1;have HY:Hid (BP (dR p 0).m (dR p 0).s (V 0).m (V 0).s=0):=by show _=_;rw [HV0.out];exact HCZ.out
     go_wp2;exact XL (Xg rfl _ _ _) rfl ⟨hbt,Xc ⟨hlt,HY.out,rfl⟩⟩
    ·
     have HNO:Hid (¬(p<dr/\BP (dR p 0).m (dR p 0).s (V 0).m (V 0).s=0)):=λhh=>hc1 (by rw [←HCZ.out];have:=hh.2;rw [HV0.out] at this;exact this);have hc2:(cz == 0)=false:=by simpa using hc1
     obtain⟨q,hq1,hq2,hq3,hq4⟩:=hR.cells;have hVL:=hV.lb;have hbt0:=AA hb0 hbt;have hst:=hbt.size;have hkc:(p:Int)<=cr:=by omega
     have hkc2:p<=cr:=by omega
     have hkd2:(p:Int)<=dr:=by omega
     have hkd3:p<=dr:=by omega
     have HE:Hid ((w9.alloc (γ #[] 60)).ownsRow w.heap.size 60 1 (σ (ς ⟨w9.heap.size,0,ν⟩) 0 0) 0 []):=Xb w9 #[] 0 hst (by unfold maxLen;omega) rfl
     ·
      have hkk2:p<cr:=by omega
      have hkk3:(p:Int)<cr:=by omega
      have hkk4:¬cr=p:=by omega
      go_wp2_with (first | (at_builtin;have _h:=hG6;refine wpList_append_own _ rfl _ _ 36 rfl w.heap.size 60 jr (σ ν 0 0) 1 24 Tryz.underlying36 HIr.out hzr0 hzr1 hzr2 rfl (by omega) (σ (ς ⟨g6,0,ν⟩) (p+1) cap6) (p+1) _ rfl hG6.own ⟨bR,offR+p,ν⟩ (dr - p) (cr - p) (CH (λi=>q (p+i)) (dr - p)) rfl (by rw [CW (sz:=1) (λi hi=>hq1 (p+i) (by omega))]) (Gb (λi hi=>hq1 (p+i) (by omega)) (λi hi u hu=>by rw [Nat.add_assoc];exact AB (AA hb0 hb6) (hq3 (p+i) (by omega) u hu))) (DE (λi hi=>hq2 (p+i) (by omega))) (by unfold maxLen;omega) (by omega) (by omega) ?_;intro v1 w7 hO7 hgr7 hnil7;obtain⟨g7,cap7,rfl⟩:=Ac hO7 (λe=>by have:=hnil7.1 e;simp at this);have hgl6:=(hG6.own.lt g6 rfl).1;have hG7:=GO.app hG6 (c:=λi=>q (p+i)) (λi hi=>hq1 (p+i) (by omega)) (λi hi=>by rw [Gx];exact((hq4 (p+i) (by omega)).later (AA hb0 hb6)).wide (λb hx _=>⟨hx,by show ς b≠ς g6;intro e;have e3:b=g6:=XM e;omega⟩)) hO7 hgr7 (λb hx=>by omega);have hb7:=Ik hb6 hgr7 (λx hx=>by show ς x≠ς g6;intro e;have e3:x=g6:=XM e;omega);clear hnil7 hO7) | (at_builtin;have _h:=hG5;refine XY _ rfl _ _ _ rfl w.heap.size 60 jr (σ ν 0 0) 1 24 Tryz.underlying36 HIr.out hzr0 hzr1 hzr2 rfl (by omega) (σ (ς ⟨g5,0,ν⟩) p cap5) p _ rfl (hG5.later (AE _ _)).own ⟨w5.heap.size,0,ν⟩ 1 1 [σ (ς ⟨b3,off3,ν⟩) n3 c3] rfl rfl (XP (η w5 _)) (Bu _ rfl) (by omega) (by unfold maxLen;omega) (by omega) (by simp;omega) _ rfl ?_;intro g6 cap6 w6 hO6 hgr6 hat6 hlt6;have hgl5:=(hG5.own.lt g5 rfl).1;have hG6:=GO.push (hG5.later (AE _ _)) (c:=[σ (ς ⟨b3,off3,ν⟩) n3 c3]) rfl (by rw [Gy];exact((hVL.later (AA (AA hb0 hb5) (AE _ _))).wide (λb hx _=>⟨hx,by show ς b≠ς g5;intro e;have e3:b=g5:=XM e;omega⟩)).imp (λ_ h=>⟨_,_,rfl,h,h3m⟩)) hO6 hgr6 hat6;have hb6:=Ik (AA hb5 (AE _ _)) hgr6 (λx hx=>by show ς x≠ς g5;intro e;have e3:x=g5:=XM e;omega);have hs6:=hb6.size;clear hO6) | (at_builtin;refine wpList_append_own _ rfl _ _ 36 rfl w.heap.size 60 jr (σ ν 0 0) 1 24 Tryz.underlying36 HIr.out hzr0 hzr1 hzr2 rfl (by omega) (σ (ς ⟨w9.heap.size,0,ν⟩) 0 0) 0 [] rfl HE.out ⟨bR,offR,ν⟩ p cr (CH q p) rfl (by rw [CW (sz:=1) (λi hi=>hq1 i (by omega))]) (Gb (λi hi=>hq1 i (by omega)) (λi hi u hu=>AB (AA hbt0 (AE _ _)) (hq3 i (by omega) u hu))) (DE (λi hi=>hq2 i (by omega))) (by unfold maxLen;omega) (by omega) (by have:=hbt.size;simp;omega) ?_;intro v1 w5 hO5 hgr5 hnil5;obtain⟨g5,cap5,rfl⟩:=Ac hO5 (λe=>by have:=hnil5.1 e;simp at this);have hG5:=GO.app (x:=(DM dm dR (n3,V) p)) (D:=λb=>b<w0.heap.size) (E:=ER) (GO.nil HE.out) (c:=q) (λi hi=>hq1 i (by omega)) (λi hi=>by rw [XT,Gw hi];exact((hq4 i (by omega)).later (AA hbt0 (AE _ _))).wide (λb hx _=>⟨hx,by show ς b≠ς w9.heap.size;intro e;have e3:b=w9.heap.size:=XM e;omega⟩)) hO5 hgr5 (λb hx=>by omega);simp only [XT] at hG5;have hb5:=Ik (AA hbt (AE _ _)) hgr5 (λx hx=>by show ς x≠ς w9.heap.size;intro e;have e3:x=w9.heap.size:=XM e;omega);have hs5:=hb5.size;clear hnil5 hO5))
      rw [show p+1+(dr - p)=dr+1 from by omega] at hG7
      refine XL (Xg rfl _ _ _) rfl ⟨hb7,Xi ⟨HNO.out,g7,cap7,_,?_,hG7⟩⟩;try rw [show p+1+(dr - p)=dr+1 from by omega]
      try rfl
  ·
   obtain rfl:k=dr:=by omega
   have hkd:¬(k:Int)<k:=by omega
   go_upto_region 2 with (fail)
   refine XO (S:=λx=>υ wr.heap.size wr x) (by kernel_rfl) (BC _) (λjH=>?_);refine tk 0 U3 (λx jS=>by go_simp<;>rfl) jH ?_
   try simp only [zS]
   refine tk 1 U2 (λx jS=>by go_simp<;>rfl) jH ?_
   try simp only [zS]
   refine tk 2 U1 (λx jS=>by go_simp<;>rfl) jH ?_
   try simp only [zS]
   refine tk 3 U0 (λx jS=>by go_simp<;>rfl) jH ?_
   try simp only [zS]
   refine tk 4 Uz (λx jS=>by go_simp<;>rfl) jH ?_
   try simp only [zS]
   refine Ao 5 Uy jH ?_;try simp only [zS]
   refine Ao 6 Ux jH ?_;try simp only [zS]
   refine Ao 7 Uw jH ?_;try simp only [zS]
   refine Ao 8 Uv jH ?_;try simp only [zS]
   refine Ao 9 Uu jH ?_;try simp only [zS]
   refine Ao 10 Qr jH ?_;try simp only [zS]
   refine Ao 11 Qq jH ?_;try simp only [zS]
   refine Ao 12 Qp jH ?_;try simp only [zS]
   refine Ao 13 Qo jH ?_;try simp only [zS]
   refine Ao 14 Qn jH ?_;try simp only [zS]
   refine Ao 15 Qm jH ?_;try simp only [zS]
   refine tk 16 Ql (λx jS=>by go_simp<;>rfl) jH ?_
   try simp only [zS]
   refine XW (by kernel_rfl) ?_ _;have hpk:p=k:=by rw [←HP.out,HPK.out]
   subst hpk;have hHw:υ wr.heap.size wr wr.drew:=jH;clear jH;go_upto_region 4 with (fail)
   refine XO (S:=λx=>υ wr.heap.size wr x) (by kernel_rfl) (AA hHw (BC _)) (λjH=>?_);refine tk 0 Qk (λx jS=>by go_simp<;>rfl) jH ?_
   try simp only [zS]
   refine tk 1 Qj (λx jS=>by go_simp<;>rfl) jH ?_
   try simp only [zS]
   refine tk 2 Qi (λx jS=>by go_simp<;>rfl) jH ?_
   try simp only [zS]
   refine tk 3 Qh (λx jS=>by go_simp<;>rfl) jH ?_
   try simp only [zS]
   refine tk 4 Qg (λx jS=>by go_simp<;>rfl) jH ?_
   try simp only [zS]
   refine Ao 5 Qf jH ?_;try simp only [zS]
   refine Ao 6 Qe jH ?_;try simp only [zS]
   refine Ao 7 Qd jH ?_;try simp only [zS]
   refine Ao 8 Qc jH ?_;try simp only [zS]
   refine Ao 9 Qb jH ?_;try simp only [zS]
   refine Ao 10 Qa jH ?_;try simp only [zS]
   refine Ao 11 QZ jH ?_;try simp only [zS]
   refine Ao 12 QY jH ?_;try simp only [zS]
   refine Ao 13 QX jH ?_;try simp only [zS]
   refine Ao 14 QW jH ?_;try simp only [zS]
   refine Ao 15 QV jH ?_;try simp only [zS]
   refine tk 16 QU (λx jS=>by go_simp<;>rfl) jH ?_
   try simp only [zS]
   refine XW (by kernel_rfl) ?_ _;generalize wr.drew.drew=v at jH ⊢;have hbt:=AA hb jH;clear jH hHw;have HNO:Hid (¬(p<p/\BP (dR p 0).m (dR p 0).s (V 0).m (V 0).s=0)):=λhh=>Nat.lt_irrefl _ hh.1;obtain⟨q,hq1,hq2,hq3,hq4⟩:=hR.cells;have hVL:=hV.lb;have hbt0:=AA hb0 hbt;have hst:=hbt.size;have hkc:(p:Int)<=cr:=by omega
   have hkc2:p<=cr:=by omega
   have hkd2:(p:Int)<=p:=by omega
   have hkd3:p<=p:=by omega
   have HE:Hid ((v.alloc (γ #[] 60)).ownsRow w.heap.size 60 1 (σ (ς ⟨v.heap.size,0,ν⟩) 0 0) 0 []):=Xb v #[] 0 hst (by unfold maxLen;omega) rfl;by_cases hkk:cr=p
   ·
    obtain rfl:p=cr:=hkk.symm;go_wp2_with (first | (at_builtin;have _h:=hG6;refine wpList_append_own _ rfl _ _ 36 rfl w.heap.size 60 jr (σ ν 0 0) 1 24 Tryz.underlying36 HIr.out hzr0 hzr1 hzr2 rfl (by omega) (σ (ς ⟨g6,0,ν⟩) (p+1) cap6) (p+1) _ rfl hG6.own ⟨bR,offR,ν⟩ 0 0 (CH (λi=>q (p+i)) 0) rfl (by rw [CW (sz:=1) (λi hi=>hq1 (p+i) (by omega))]) (Gb (λi hi=>hq1 (p+i) (by omega)) (λi hi u hu=>absurd hi (by omega))) (DE (λi hi=>hq2 (p+i) (by omega))) (by unfold maxLen;omega) (by omega) (by omega) ?_;intro v1 w7 hO7 hgr7 hnil7;obtain⟨g7,cap7,rfl⟩:=Ac hO7 (λe=>by have:=hnil7.1 e;simp at this);have hgl6:=(hG6.own.lt g6 rfl).1;have hG7:=GO.app hG6 (c:=λi=>q (p+i)) (λi hi=>hq1 (p+i) (by omega)) (λi hi=>by rw [Gx];exact((hq4 (p+i) (by omega)).later (AA hb0 hb6)).wide (λb hx _=>⟨hx,by show ς b≠ς g6;intro e;have e3:b=g6:=XM e;omega⟩)) hO7 hgr7 (λb hx=>by omega);have hb7:=Ik hb6 hgr7 (λx hx=>by show ς x≠ς g6;intro e;have e3:x=g6:=XM e;omega);clear hnil7 hO7) | (at_builtin;have _h:=hG5;refine XY _ rfl _ _ _ rfl w.heap.size 60 jr (σ ν 0 0) 1 24 Tryz.underlying36 HIr.out hzr0 hzr1 hzr2 rfl (by omega) (σ (ς ⟨g5,0,ν⟩) p cap5) p _ rfl (hG5.later (AE _ _)).own ⟨w5.heap.size,0,ν⟩ 1 1 [σ (ς ⟨b3,off3,ν⟩) n3 c3] rfl rfl (XP (η w5 _)) (Bu _ rfl) (by omega) (by unfold maxLen;omega) (by omega) (by simp;omega) _ rfl ?_;intro g6 cap6 w6 hO6 hgr6 hat6 hlt6;have hgl5:=(hG5.own.lt g5 rfl).1;have hG6:=GO.push (hG5.later (AE _ _)) (c:=[σ (ς ⟨b3,off3,ν⟩) n3 c3]) rfl (by rw [Gy];exact((hVL.later (AA (AA hb0 hb5) (AE _ _))).wide (λb hx _=>⟨hx,by show ς b≠ς g5;intro e;have e3:b=g5:=XM e;omega⟩)).imp (λ_ h=>⟨_,_,rfl,h,h3m⟩)) hO6 hgr6 hat6;have hb6:=Ik (AA hb5 (AE _ _)) hgr6 (λx hx=>by show ς x≠ς g5;intro e;have e3:x=g5:=XM e;omega);have hs6:=hb6.size;clear hO6) | (at_builtin;refine wpList_append_own _ rfl _ _ 36 rfl w.heap.size 60 jr (σ ν 0 0) 1 24 Tryz.underlying36 HIr.out hzr0 hzr1 hzr2 rfl (by omega) (σ (ς ⟨v.heap.size,0,ν⟩) 0 0) 0 [] rfl HE.out ⟨bR,offR,ν⟩ p p (CH q p) rfl (by rw [CW (sz:=1) (λi hi=>hq1 i (by omega))]) (Gb (λi hi=>hq1 i (by omega)) (λi hi u hu=>AB (AA hbt0 (AE _ _)) (hq3 i (by omega) u hu))) (DE (λi hi=>hq2 i (by omega))) (by unfold maxLen;omega) (by omega) (by have:=hbt.size;simp;omega) ?_;intro v1 w5 hO5 hgr5 hnil5;obtain⟨g5,cap5,rfl⟩:=Ac hO5 (λe=>by have:=hnil5.1 e;simp at this);have hG5:=GO.app (x:=(DM dm dR (n3,V) p)) (D:=λb=>b<w0.heap.size) (E:=ER) (GO.nil HE.out) (c:=q) (λi hi=>hq1 i (by omega)) (λi hi=>by rw [XT,Gw hi];exact((hq4 i (by omega)).later (AA hbt0 (AE _ _))).wide (λb hx _=>⟨hx,by show ς b≠ς v.heap.size;intro e;have e3:b=v.heap.size:=XM e;omega⟩)) hO5 hgr5 (λb hx=>by omega);simp only [XT] at hG5;have hb5:=Ik (AA hbt (AE _ _)) hgr5 (λx hx=>by show ς x≠ς v.heap.size;intro e;have e3:x=v.heap.size:=XM e;omega);have hs5:=hb5.size;clear hnil5 hO5))
    rw [show p+1+0=p+1 from by omega] at hG7
    refine XL (Xg rfl _ _ _) rfl ⟨hb7,Xi ⟨HNO.out,g7,cap7,_,?_,hG7⟩⟩;try rw [show p+1+0=p+1 from by omega]
    try rfl
   ·
    have hkk2:p<cr:=by omega
    have hkk3:(p:Int)<cr:=by omega
    have hkk4:¬cr=p:=by omega
    go_wp2_with (first | (at_builtin;have _h:=hG6;refine wpList_append_own _ rfl _ _ 36 rfl w.heap.size 60 jr (σ ν 0 0) 1 24 Tryz.underlying36 HIr.out hzr0 hzr1 hzr2 rfl (by omega) (σ (ς ⟨g6,0,ν⟩) (p+1) cap6) (p+1) _ rfl hG6.own ⟨bR,offR+p,ν⟩ 0 (cr - p) (CH (λi=>q (p+i)) 0) rfl (by rw [CW (sz:=1) (λi hi=>hq1 (p+i) (by omega))]) (Gb (λi hi=>hq1 (p+i) (by omega)) (λi hi u hu=>absurd hi (by omega))) (DE (λi hi=>hq2 (p+i) (by omega))) (by unfold maxLen;omega) (by omega) (by omega) ?_;intro v1 w7 hO7 hgr7 hnil7;obtain⟨g7,cap7,rfl⟩:=Ac hO7 (λe=>by have:=hnil7.1 e;simp at this);have hgl6:=(hG6.own.lt g6 rfl).1;have hG7:=GO.app hG6 (c:=λi=>q (p+i)) (λi hi=>hq1 (p+i) (by omega)) (λi hi=>by rw [Gx];exact((hq4 (p+i) (by omega)).later (AA hb0 hb6)).wide (λb hx _=>⟨hx,by show ς b≠ς g6;intro e;have e3:b=g6:=XM e;omega⟩)) hO7 hgr7 (λb hx=>by omega);have hb7:=Ik hb6 hgr7 (λx hx=>by show ς x≠ς g6;intro e;have e3:x=g6:=XM e;omega);clear hnil7 hO7) | (at_builtin;have _h:=hG5;refine XY _ rfl _ _ _ rfl w.heap.size 60 jr (σ ν 0 0) 1 24 Tryz.underlying36 HIr.out hzr0 hzr1 hzr2 rfl (by omega) (σ (ς ⟨g5,0,ν⟩) p cap5) p _ rfl (hG5.later (AE _ _)).own ⟨w5.heap.size,0,ν⟩ 1 1 [σ (ς ⟨b3,off3,ν⟩) n3 c3] rfl rfl (XP (η w5 _)) (Bu _ rfl) (by omega) (by unfold maxLen;omega) (by omega) (by simp;omega) _ rfl ?_;intro g6 cap6 w6 hO6 hgr6 hat6 hlt6;have hgl5:=(hG5.own.lt g5 rfl).1;have hG6:=GO.push (hG5.later (AE _ _)) (c:=[σ (ς ⟨b3,off3,ν⟩) n3 c3]) rfl (by rw [Gy];exact((hVL.later (AA (AA hb0 hb5) (AE _ _))).wide (λb hx _=>⟨hx,by show ς b≠ς g5;intro e;have e3:b=g5:=XM e;omega⟩)).imp (λ_ h=>⟨_,_,rfl,h,h3m⟩)) hO6 hgr6 hat6;have hb6:=Ik (AA hb5 (AE _ _)) hgr6 (λx hx=>by show ς x≠ς g5;intro e;have e3:x=g5:=XM e;omega);have hs6:=hb6.size;clear hO6) | (at_builtin;refine wpList_append_own _ rfl _ _ 36 rfl w.heap.size 60 jr (σ ν 0 0) 1 24 Tryz.underlying36 HIr.out hzr0 hzr1 hzr2 rfl (by omega) (σ (ς ⟨v.heap.size,0,ν⟩) 0 0) 0 [] rfl HE.out ⟨bR,offR,ν⟩ p cr (CH q p) rfl (by rw [CW (sz:=1) (λi hi=>hq1 i (by omega))]) (Gb (λi hi=>hq1 i (by omega)) (λi hi u hu=>AB (AA hbt0 (AE _ _)) (hq3 i (by omega) u hu))) (DE (λi hi=>hq2 i (by omega))) (by unfold maxLen;omega) (by omega) (by have:=hbt.size;simp;omega) ?_;intro v1 w5 hO5 hgr5 hnil5;obtain⟨g5,cap5,rfl⟩:=Ac hO5 (λe=>by have:=hnil5.1 e;simp at this);have hG5:=GO.app (x:=(DM dm dR (n3,V) p)) (D:=λb=>b<w0.heap.size) (E:=ER) (GO.nil HE.out) (c:=q) (λi hi=>hq1 i (by omega)) (λi hi=>by rw [XT,Gw hi];exact((hq4 i (by omega)).later (AA hbt0 (AE _ _))).wide (λb hx _=>⟨hx,by show ς b≠ς v.heap.size;intro e;have e3:b=v.heap.size:=XM e;omega⟩)) hO5 hgr5 (λb hx=>by omega);simp only [XT] at hG5;have hb5:=Ik (AA hbt (AE _ _)) hgr5 (λx hx=>by show ς x≠ς v.heap.size;intro e;have e3:x=v.heap.size:=XM e;omega);have hs5:=hb5.size;clear hnil5 hO5))
    rw [show p+1+0=p+1 from by omega] at hG7
    refine XL (Xg rfl _ _ _) rfl ⟨hb7,Xi ⟨HNO.out,g7,cap7,_,?_,hG7⟩⟩;try rw [show p+1+0=p+1 from by omega]
    try rfl
