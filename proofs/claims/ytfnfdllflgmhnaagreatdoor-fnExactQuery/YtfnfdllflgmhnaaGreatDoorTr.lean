import Derived.Test.YtfnfdllflgmhnaaGreatDoorTo
open Bool renaming and_eq_true → XV
open Go renaming Calls → XR, World → ο, cell_of_row → ε, heap_alloc_new → η, wpAnyH_done → XW, wp_region_held_drew → XO
open Go.Ending renaming returned → ρ
open Go.Ground renaming data → φ, phase → ξ
open Go.IntKind renaming i64 → κ
open Go.Obj renaming cells → γ
open Go.Op renaming bytesLess → Xh
open Go.Operand renaming tmp → δ
open Go.Proofs.Tryz renaming prog → μ
open Go.RowKit renaming Below → υ, intOf → XX
open Go.RowKit.Below renaming refl → Xa
open Go.Value renaming bool → β, int → ι, slice → σ, string → τ, agg → χ, pointer → ψ
open Option renaming none → ν, some → ς
open Or renaming inl → Xc, inr → Xi
namespace Go.Proofs.YtfnfdllflgmhnaaGreatDoor
open Go.RowKit Go.Maps Go.WideMaps
set_option maxRecDepth 20000
set_option maxHeartbeats 4000000
abbrev SW:Oper:=⟨ς 13,.load 94 (δ 6),94,"l5_replay.go:95",#[],ν⟩
abbrev SV:Oper:=⟨ς 14,.call ⟨.value (.func 112),#[δ 13],#[94]⟩,4,"l5_replay.go:95",#[⟨0,φ⟩],ν⟩
abbrev SU:Oper:=⟨ς 15,.unOp .not 4 (δ 14),4,"l5_replay.go:95",#[⟨1,φ⟩],ν⟩
abbrev ST:Oper:=⟨ς 16,.move (δ 15),4,"l5_replay.go:95",#[⟨2,φ⟩,⟨1,.chain⟩],ν⟩
abbrev SS:Oper:=⟨ς 17,.load 94 (δ 6),94,"l5_replay.go:95",#[⟨3,.guard⟩],ς (3,true)⟩
abbrev SQ:Oper:=⟨ς 18,.fieldAddr 94 (δ 6) 1,0,"l5_replay.go:95",#[⟨3,.guard⟩],ς (3,true)⟩
abbrev SP:Oper:=⟨ς 19,.load 3 (δ 18),3,"l5_replay.go:95",#[⟨5,φ⟩,⟨3,.guard⟩],ς (3,true)⟩
abbrev SO:Oper:=⟨ς 20,.call ⟨.value (.func 185),#[δ 19],#[3]⟩,94,"l5_replay.go:95",#[⟨6,φ⟩,⟨3,.chain⟩,⟨3,.guard⟩],ς (3,true)⟩
abbrev SN:Oper:=⟨ς 21,.binOp .neq 94 (δ 17) (δ 20) 94,4,"l5_replay.go:95",#[⟨4,φ⟩,⟨7,φ⟩,⟨3,.guard⟩],ς (3,true)⟩
abbrev SK:Oper:=⟨ς 22,.pick (δ 16) (δ 21) (.const (β false)),4,"l5_replay.go:95",#[⟨3,φ⟩,⟨8,φ⟩],ν⟩
theorem Wn(a:Option Addr)(n c:Nat)(I:Nat->Itm)(a':Option Addr)(n' c':Nat)(C:Nat->Clm)(w:ο)(h:IL w a n I)(h':CL w a' n' C)(hn:n<=1048576)(hn':n'<=1048576) :
 XR μ 148 #[σ a n c,σ a' n' c'] w λe w'=>e=ρ (β (FO n I n' C))/\υ w.heap.size w w':=by
 have hb0:=Xa w.heap.size w;go_enter Tryz.func148,Tryz.ntmps148
 go_wp2;go_loopw [6,9] (λ_ i wr=>∃ k:Nat,k<=n/\i=ι κ k/\(∀ j,j<k->Hz (I j).o (I j).m (I j).s=true)/\υ w.heap.size w wr) (λ_ i _=>n - (XX i).toNat)
 case atStart=>exact⟨0,by omega,rfl,λj hj=>by omega,hb0⟩
 case round=>
  obtain⟨k,hk,rfl,hall,hb⟩:=hrel;by_cases hlt:k<n
  ·
   obtain⟨b,off,rfl,d0,d1,d2,hs⟩:=h.later hb k hlt;have hR:=η wr (γ #[ι κ (I k).o,ι κ (I k).m,τ (I k).s] 94);have c0:(wr.alloc (γ #[ι κ (I k).o,ι κ (I k).m,τ (I k).s] 94)).cell? ⟨wr.heap.size,0,ν⟩=ς (ι κ (I k).o):=(ε _ _ 0 _ _ _ hR).trans rfl;have c1:(wr.alloc (γ #[ι κ (I k).o,ι κ (I k).m,τ (I k).s] 94)).cell? ⟨wr.heap.size,1,ν⟩=ς (ι κ (I k).m):=(ε _ _ 1 _ _ _ hR).trans rfl;have c2:(wr.alloc (γ #[ι κ (I k).o,ι κ (I k).m,τ (I k).s] 94)).cell? ⟨wr.heap.size,2,ν⟩=ς (τ (I k).s):=(ε _ _ 2 _ _ _ hR).trans rfl;clear hR;rcases hv:Ap (I k).o (I k).m (I k).s
   rotate_left
   ·
    go_wp2;refine XO (S:=λx=>υ (wr.alloc (γ #[ι κ (I k).o,ι κ (I k).m,τ (I k).s] 94)).heap.size (wr.alloc (γ #[ι κ (I k).o,ι κ (I k).m,τ (I k).s] 94)) x) (by kernel_rfl) (BC _) (λjH=>?_);refine tk 0 SW (λx jS=>by have k0:=AB jS c0;have k1:=AB jS c1;have k2:=AB jS c2;go_simp<;>rfl) jH ?_
    try simp only [zS]
    refine rd 1 SV (λK hK=>?_);go_simp;refine(Hd _ _ _ _ hs).mono ?_;rw [hv];rintro e w1 ⟨rfl,hb1⟩;refine hK.out _ _ (AA jH hb1) (λjH=>?_);clear hK K;try simp only [zS]
    refine tk 2 SU (λx jS=>by go_simp<;>rfl) jH ?_
    try simp only [zS]
    refine tk 3 ST (λx jS=>by go_simp<;>rfl) jH ?_
    try simp only [zS]
    refine Ao 4 SS jH ?_;try simp only [zS]
    refine Ao 5 SQ jH ?_;try simp only [zS]
    refine Ao 6 SP jH ?_;try simp only [zS]
    refine Ao 7 SO jH ?_;try simp only [zS]
    refine Ao 8 SN jH ?_;try simp only [zS]
    refine tk 9 SK (λx jS=>by go_simp<;>rfl) jH ?_
    try simp only [zS]
    refine XW (by kernel_rfl) ?_ _;go_wp2;go_roundw
    case rel=>exact⟨k+1,by omega,by go_num,λj hj=>by
     by_cases e:j=k
     · subst e;unfold Hz;rw [hv];rfl
     · exact hall j (by omega),AA hb (AA (AE _ _) jH)⟩
    case measure=>simp [XX];omega
   rcases hw:((I k).o == 1 && decide ((I k).s.size=0))
   ·
    go_wp2;refine XO (S:=λx=>υ (wr.alloc (γ #[ι κ (I k).o,ι κ (I k).m,τ (I k).s] 94)).heap.size (wr.alloc (γ #[ι κ (I k).o,ι κ (I k).m,τ (I k).s] 94)) x) (by kernel_rfl) (BC _) (λjH=>?_);refine tk 0 SW (λx jS=>by have k0:=AB jS c0;have k1:=AB jS c1;have k2:=AB jS c2;go_simp<;>rfl) jH ?_
    try simp only [zS]
    refine rd 1 SV (λK hK=>?_);go_simp;refine(Hd _ _ _ _ hs).mono ?_;rw [hv];rintro e w1 ⟨rfl,hb1⟩;refine hK.out _ _ (AA jH hb1) (λjH=>?_);clear hK K;try simp only [zS]
    refine tk 2 SU (λx jS=>by go_simp<;>rfl) jH ?_
    try simp only [zS]
    refine tk 3 ST (λx jS=>by go_simp<;>rfl) jH ?_
    try simp only [zS]
    refine tk 4 SS (λx jS=>by have k0:=AB jS c0;have k1:=AB jS c1;have k2:=AB jS c2;go_simp<;>rfl) jH ?_
    try simp only [zS]
    refine tk 5 SQ (λx jS=>by go_simp<;>rfl) jH ?_
    try simp only [zS]
    refine tk 6 SP (λx jS=>by have k0:=AB jS c0;have k1:=AB jS c1;have k2:=AB jS c2;go_simp<;>rfl) jH ?_
    try simp only [zS]
    refine rd 7 SO (λK hK=>?_);go_simp;refine(CN _ _).mono ?_;rintro e w2 ⟨rfl,hb2⟩;refine hK.out _ _ (AA jH hb2) (λjH=>?_);clear hK K;try simp only [zS]
    refine wpAnyH_take (i:=8) (oi:=SN) (v:=β true) rfl (by kernel_rfl) (by kernel_rfl) (by kernel_rfl) (λ_ _ _ h=>h) (Xc ⟨by rfl,λx jS=>(by go_simp;intro e1 e2;rw [e1,(show (I k).s.size=0 from (BY _).1 e2)] at hw;exact absurd hw (by decide))⟩) jH ?_
    try simp only [zS]
    refine tk 9 SK (λx jS=>by go_simp<;>rfl) jH ?_
    try simp only [zS]
    refine XW (by kernel_rfl) ?_ _;go_wp2;go_ret
    exact⟨AM (by unfold FO;rw [Ae hlt (show Hz (I k).o (I k).m (I k).s=false by unfold Hz;rw [hv,hw];rfl)];rfl),AA hb (AA (AE _ _) jH)⟩
   ·
    go_wp2;refine XO (S:=λx=>υ (wr.alloc (γ #[ι κ (I k).o,ι κ (I k).m,τ (I k).s] 94)).heap.size (wr.alloc (γ #[ι κ (I k).o,ι κ (I k).m,τ (I k).s] 94)) x) (by kernel_rfl) (BC _) (λjH=>?_);refine tk 0 SW (λx jS=>by have k0:=AB jS c0;have k1:=AB jS c1;have k2:=AB jS c2;go_simp<;>rfl) jH ?_
    try simp only [zS]
    refine rd 1 SV (λK hK=>?_);go_simp;refine(Hd _ _ _ _ hs).mono ?_;rw [hv];rintro e w1 ⟨rfl,hb1⟩;refine hK.out _ _ (AA jH hb1) (λjH=>?_);clear hK K;try simp only [zS]
    refine tk 2 SU (λx jS=>by go_simp<;>rfl) jH ?_
    try simp only [zS]
    refine tk 3 ST (λx jS=>by go_simp<;>rfl) jH ?_
    try simp only [zS]
    refine tk 4 SS (λx jS=>by have k0:=AB jS c0;have k1:=AB jS c1;have k2:=AB jS c2;go_simp<;>rfl) jH ?_
    try simp only [zS]
    refine tk 5 SQ (λx jS=>by go_simp<;>rfl) jH ?_
    try simp only [zS]
    refine tk 6 SP (λx jS=>by have k0:=AB jS c0;have k1:=AB jS c1;have k2:=AB jS c2;go_simp<;>rfl) jH ?_
    try simp only [zS]
    refine rd 7 SO (λK hK=>?_);go_simp;refine(CN _ _).mono ?_;rintro e w2 ⟨rfl,hb2⟩;refine hK.out _ _ (AA jH hb2) (λjH=>?_);clear hK K;try simp only [zS]
    refine wpAnyH_take (i:=8) (oi:=SN) (v:=β false) rfl (by kernel_rfl) (by kernel_rfl) (by kernel_rfl) (λ_ _ _ h=>h) (Xc ⟨by rfl,λx jS=>(by go_simp;have q:=hw;rw [XV,beq_iff_eq,decide_eq_true_eq] at q;rw [if_pos q.1,if_pos ((BY _).2 q.2)])⟩) jH ?_;try simp only [zS]
    refine tk 9 SK (λx jS=>by go_simp<;>rfl) jH ?_
    try simp only [zS]
    refine XW (by kernel_rfl) ?_ _;go_wp2;go_roundw
    case rel=>exact⟨k+1,by omega,by go_num,λj hj=>by
     by_cases e:j=k
     · subst e;unfold Hz;rw [hw];simp
     · exact hall j (by omega),AA hb (AA (AE _ _) jH)⟩
    case measure=>simp [XX];omega
  ·
   obtain rfl:k=n:=by omega
   go_wp2_with (go_at_call 161;refine(JG _ _ _ _ _ _ _ _ _ (h.later hb) (h'.later hb) hn hn').mono ?_;rintro e w1 ⟨rfl,hb1⟩)
   go_ret
   exact⟨AM (by unfold FO;rw [Az hall];rfl),AA hb hb1⟩
set_option maxHeartbeats 8000000
theorem DB{s:ByteArray}{n:Nat}{C:Nat->Clm}{r:Nat}{m:Nat->Nat}{R:Nat->Nat->Itm}(h:Dp s n C r m R=false):BZ s n C r m R=false:=by rw [←JP];exact h
theorem TH(b:Nat)(s:ByteArray)(n:Nat)(C:Nat->Clm)(r:Nat)(m:Nat->Nat)(R:Nat->Nat->Itm)(ac:Option Addr)(cc:Nat)(ar:Option Addr)(cr:Nat)(w:ο)(hK:KwAt w b)(hC:CL w ac n C)(hR:OL w ar r m R)(hsm:Sm3 ⟨s,n,C,r,m,R⟩) :
 XR μ 104 #[.map (ς b),χ #[τ s,σ ac n cc,σ ar r cr]] w λe w'=>e=ρ (β (BZ s n C r m R))/\υ w.heap.size w w':=by
 have hb0:=AE w (γ #[τ s,σ ac n cc,σ ar r cr] 100);have hX0:=η w (γ #[τ s,σ ac n cc,σ ar r cr] 100);have hss:=hsm.s;have hn:=hsm.co.1;have hrr:=hsm.ro.1;dsimp only at hss hn hrr
 have c0:(w.alloc (γ #[τ s,σ ac n cc,σ ar r cr] 100)).cell? ⟨w.heap.size,0,ν⟩=ς (τ s):=(ε _ _ 0 _ _ _ hX0).trans rfl;have c1:(w.alloc (γ #[τ s,σ ac n cc,σ ar r cr] 100)).cell? ⟨w.heap.size,1,ν⟩=ς (σ ac n cc):=(ε _ _ 1 _ _ _ hX0).trans rfl;have c2:(w.alloc (γ #[τ s,σ ac n cc,σ ar r cr] 100)).cell? ⟨w.heap.size,2,ν⟩=ς (σ ar r cr):=(ε _ _ 2 _ _ _ hX0).trans rfl;clear hX0;rcases hq1:AV s
 ·
  have HF:Hid (BZ s n C r m R=false):=DB (by unfold Dp;rw [hq1];rfl);go_enter Tryz.func104,Tryz.ntmps104
  go_wp2_with (go_at_call 107;refine(DD b s _ (hK.later hb0) hss).mono ?_;rw [hq1];rintro e w1 ⟨rfl,hb1⟩;have d1:=AB hb1 c1;have d2:=AB hb1 c2)
  go_ret
  exact⟨AM HF.out.symm,AA hb0 hb1⟩
 rcases hq2:(Bb n 1 20 && Aw n (λj=>Bx (C j).s (C j).t))
 ·
  have HF:Hid (BZ s n C r m R=false):=DB (by unfold Dp;rw [hq1,hq2];rfl);go_enter Tryz.func104,Tryz.ntmps104
  go_wp2_with (first | (go_at_call 107;refine(DD b s _ (hK.later hb0) hss).mono ?_;rw [hq1];rintro e w1 ⟨rfl,hb1⟩;have d1:=AB hb1 c1;have d2:=AB hb1 c2) | (go_at_call 109;refine(Eo b _ _ _ C _ (hK.later (AA hb0 hb1)) (hC.later (AA hb0 hb1)) hn).mono ?_;rw [hq2];rintro e w2 ⟨rfl,hb2⟩;have e1:=AB hb2 d1;have e2:=AB hb2 d2))
  go_ret
  exact⟨AM HF.out.symm,AA hb0 (AA hb1 hb2)⟩
 rcases hq3:FE C n
 ·
  have HF:Hid (BZ s n C r m R=false):=DB (by unfold Dp;rw [hq1,hq2,hq3];rfl);go_enter Tryz.func104,Tryz.ntmps104
  go_wp2_with (first | (go_at_call 107;refine(DD b s _ (hK.later hb0) hss).mono ?_;rw [hq1];rintro e w1 ⟨rfl,hb1⟩;have d1:=AB hb1 c1;have d2:=AB hb1 c2) | (go_at_call 109;refine(Eo b _ _ _ C _ (hK.later (AA hb0 hb1)) (hC.later (AA hb0 hb1)) hn).mono ?_;rw [hq2];rintro e w2 ⟨rfl,hb2⟩;have e1:=AB hb2 d1;have e2:=AB hb2 d2) | (go_at_call 147;refine(EM _ _ _ C _ (hC.later (AA hb0 (AA hb1 hb2))) hn).mono ?_;rw [hq3];rintro e w3 ⟨rfl,hb3⟩;have f1:=AB hb3 e1;have f2:=AB hb3 e2;have B3:υ w.heap.size w w3:=AA hb0 (AA hb1 (AA hb2 hb3))))
  go_ret
  exact⟨AM HF.out.symm,B3⟩
 by_cases hq4:r<=1000
 rotate_left
 ·
  have HF:Hid (BZ s n C r m R=false):=DB (by unfold Dp;rw [decide_eq_false hq4];simp);have hq5:(1000:Int)<r:=by omega
  go_enter Tryz.func104,Tryz.ntmps104
  go_wp2_with (first | (go_at_call 107;refine(DD b s _ (hK.later hb0) hss).mono ?_;rw [hq1];rintro e w1 ⟨rfl,hb1⟩;have d1:=AB hb1 c1;have d2:=AB hb1 c2) | (go_at_call 109;refine(Eo b _ _ _ C _ (hK.later (AA hb0 hb1)) (hC.later (AA hb0 hb1)) hn).mono ?_;rw [hq2];rintro e w2 ⟨rfl,hb2⟩;have e1:=AB hb2 d1;have e2:=AB hb2 d2) | (go_at_call 147;refine(EM _ _ _ C _ (hC.later (AA hb0 (AA hb1 hb2))) hn).mono ?_;rw [hq3];rintro e w3 ⟨rfl,hb3⟩;have f1:=AB hb3 e1;have f2:=AB hb3 e2;have B3:υ w.heap.size w w3:=AA hb0 (AA hb1 (AA hb2 hb3))))
  go_ret
  exact⟨AM HF.out.symm,B3⟩
 have hq5:¬(1000:Int)<r:=by omega
 have h0:0<n:=by
  rw [XV] at hq2;have:=hq2.1;unfold Bb at this;simp at this
  omega
 have HT:∀ x:Bool,Aw r (λi=>FO (m i) (R i) n C)=x->Hid (BZ s n C r m R=(x && Fo C r R)):=λx hx=>by
  show _=_
  rw [←JP];unfold Dp;rw [hq1,hq2,hq3,decide_eq_true hq4,hx];rfl
 go_enter Tryz.func104,Tryz.ntmps104
 go_wp2_with (first | (go_at_call 107;refine(DD b s _ (hK.later hb0) hss).mono ?_;rw [hq1];rintro e w1 ⟨rfl,hb1⟩;have d1:=AB hb1 c1;have d2:=AB hb1 c2) | (go_at_call 109;refine(Eo b _ _ _ C _ (hK.later (AA hb0 hb1)) (hC.later (AA hb0 hb1)) hn).mono ?_;rw [hq2];rintro e w2 ⟨rfl,hb2⟩;have e1:=AB hb2 d1;have e2:=AB hb2 d2) | (go_at_call 147;refine(EM _ _ _ C _ (hC.later (AA hb0 (AA hb1 hb2))) hn).mono ?_;rw [hq3];rintro e w3 ⟨rfl,hb3⟩;have f1:=AB hb3 e1;have f2:=AB hb3 e2;have B3:υ w.heap.size w w3:=AA hb0 (AA hb1 (AA hb2 hb3))))
 clear c0 c1 c2 d1 d2 e1 e2;go_loopw [6,35] (λ_ i wr=>∃ k:Nat,k<=r/\i=ι κ k/\(∀ j,j<k->FO (m j) (R j) n C=true)/\υ w3.heap.size w3 wr) (λ_ i _=>r - (XX i).toNat)
 case atStart=>exact⟨0,by omega,rfl,λj hj=>by omega,Xa _ _⟩
 case round=>
  obtain⟨k,hk,rfl,hall,hb⟩:=hrel;have g1:=AB hb f1;have g2:=AB hb f2;have B4:=AA B3 hb;by_cases hlt:k<r
  ·
   obtain⟨b',off,i,c',rfl,d0,di,dm⟩:=hR.later B4 k hlt;go_wp2_with (go_at_call 148;refine(Wn _ _ _ _ _ _ _ _ _ di (hC.later B4) dm hn).mono ?_;rintro e w4 ⟨rfl,hb4⟩;rcases ho:FO (m k) (R k) n C)
   ·
    go_ret
    exact⟨AM (by rw [(HT false (Ae (p:=λi=>FO (m i) (R i) n C) hlt ho)).out];rfl),AA B4 hb4⟩
   ·
    go_roundw
    case rel=>exact⟨k+1,by omega,by go_num,λi hi=>by
     by_cases e:i=k
     · subst e;exact ho
     · exact hall i (by omega),AA hb hb4⟩
    case measure=>simp [XX];omega
  ·
   obtain rfl:k=r:=by omega
   have HQ:=HT true (Az hall);have hm0:∀ j,j<k->0<m j:=λj hj=>by
    have:=hall j hj;unfold FO Bz at this;rw [XV,XV,decide_eq_true_eq] at this;have:=this.2.1;omega
   have HM:Hid (∀ j,j<k->0<m j):=hm0;clear hm0 HT;obtain⟨b',off',rfl,u0,u1,-⟩:=hC.later B4 0 h0;have i0:(0:Int)<(n:Int):=by omega
   rcases ht:((C 0).t == 1)
   ·
    go_wp2_with (go_at_call 151;refine(TI _ _ _ m R _ (hR.later B4) HM.out hrr).mono ?_;rintro e w5 ⟨rfl,hb5⟩)
    go_ret
    exact⟨AM (by rw [HQ.out];unfold Fo;rw [ht];rfl),AA B4 hb5⟩
   ·
    go_wp2_with (go_at_call 149;refine(TJ _ _ _ m R _ (hR.later B4) HM.out hrr).mono ?_;rintro e w5 ⟨rfl,hb5⟩)
    go_ret
    exact⟨AM (by rw [HQ.out];unfold Fo;rw [ht];rfl),AA B4 hb5⟩
set_option maxHeartbeats 4000000
abbrev VD:Oper:=⟨ς 7,.fieldAddr 45 (δ 1) 0,0,"l5_replay.go:51",#[],ν⟩
abbrev VC:Oper:=⟨ς 8,.load 43 (δ 7),43,"l5_replay.go:51",#[⟨0,φ⟩],ν⟩
abbrev VB:Oper:=⟨ς 9,.call ⟨.value (.func 103),#[],#[]⟩,164,"l5_replay.go:51",#[],ν⟩
abbrev VA:Oper:=⟨ς 10,.makeFunc (Fn.func 104) #[δ 9] #[],162,"l5_replay.go:51",#[⟨2,φ⟩],ν⟩
abbrev U9:Oper:=⟨ς 11,.call ⟨.value (.func 102),#[δ 8,.const (ι κ 100),δ 10],#[43,3,162]⟩,4,"l5_replay.go:51",#[⟨1,φ⟩,⟨3,φ⟩,⟨2,.chain⟩],ν⟩
abbrev U8:Oper:=⟨ς 12,.move (δ 11),4,"l5_replay.go:51",#[⟨4,φ⟩,⟨4,.chain⟩],ν⟩
abbrev U7:Oper:=⟨ς 13,.fieldAddr 45 (δ 1) 0,0,"l5_replay.go:51",#[⟨5,.guard⟩],ς (5,true)⟩
abbrev U6:Oper:=⟨ς 14,.load 43 (δ 13),43,"l5_replay.go:51",#[⟨6,φ⟩,⟨5,.guard⟩],ς (5,true)⟩
abbrev U5:Oper:=⟨ς 15,.call ⟨.value (.func 105),#[δ 14,.func 106],#[43,167]⟩,4,"l5_replay.go:51",#[⟨7,φ⟩,⟨5,.chain⟩,⟨5,.guard⟩],ς (5,true)⟩
abbrev U4:Oper:=⟨ς 16,.pick (δ 12) (δ 15) (.const (β false)),4,"l5_replay.go:51",#[⟨5,φ⟩,⟨8,φ⟩],ν⟩
abbrev Qs:Oper:=⟨ς 2,.assign (δ 16),4,"l5_replay.go:51",#[⟨9,φ⟩,⟨8,.chain⟩,⟨0,ξ⟩,⟨1,ξ⟩,⟨2,ξ⟩,⟨3,ξ⟩,⟨4,ξ⟩,⟨5,ξ⟩,⟨6,ξ⟩,⟨7,ξ⟩,⟨8,ξ⟩,⟨9,ξ⟩],ν⟩
def D9(d:Td):Bool:=BZ d.s d.n d.C d.r d.m d.R
def GR(n:Nat)(T:Nat->Td):Bool:=decide (n<=100) && Aw n (λk=>D9 (T k))
def CT(n:Nat)(T:Nat->Td):Bool:=GR n T && Aw n (LL T)
theorem Iq{n:Nat}{T:Nat->Td}(h:100<n):GR n T=false:=by unfold GR;rw [decide_eq_false (by omega)];rfl
theorem Kf{n k:Nat}{T:Nat->Td}(hk:k<n)(h:D9 (T k)=false):GR n T=false:=by unfold GR;rw [Ae (p:=λk=>D9 (T k)) hk h];simp
theorem Ip{n:Nat}{T:Nat->Td}(hn:n<=100)(h:∀ k,k<n->D9 (T k)=true):GR n T=true:=by unfold GR;rw [Az h,decide_eq_true hn];rfl
theorem KP(b:Nat)(a:Option Addr)(n c:Nat)(T:Nat->Td)(w:ο)(hK:KwAt w b)(h:TL w a n T)(hn:n<=1048576)(h0:0<n) :
 XR μ 102 #[σ a n c,ι κ 100,.func (.func 104) #[.map (ς b)] #[]] w λe w'=>e=ρ (β (GR n T))/\υ w.heap.size w w':=by
 have hb0:=Xa w.heap.size w;go_enter Tryz.func102,Tryz.ntmps102
 have h0':((n:Int) == 0)=false:=by simp;omega
 by_cases h20:100<n
 ·
  have h20':(100:Int)<n:=by omega
  go_wp2;go_ret
  exact⟨AM (Iq h20).symm,hb0⟩
 have h20':(n:Int)<=100:=by omega
 go_wp2;go_loopw [20] (λi wr=>∃ k:Nat,k<=n/\i=ι κ k/\(∀ j,j<k->D9 (T j)=true)/\υ w.heap.size w wr) (λi _=>n - (XX i).toNat)
 case atStart=>exact⟨0,by omega,rfl,λj hj=>by omega,hb0⟩
 case round=>
  obtain⟨j,hj,rfl,hall,hb2⟩:=hrel;by_cases hlt:j<n
  ·
   obtain⟨b',off,ac,cc,ar,cr,rfl,d0,d1,d2,hC,hO,hs⟩:=h.later hb2 j hlt;have hB:=AE wr (γ #[τ (T j).s,σ ac (T j).n cc,σ ar (T j).r cr] 100);have hK2:=hK.later (AA hb2 hB);have hC2:=hC.later hB;have hO2:=hO.later hB;go_wp2_with (go_at_call 104;refine(TH b _ _ _ _ _ _ ac cc ar cr _ hK2 hC2 hO2 hs).mono ?_;rintro e w3 ⟨rfl,hb3⟩;replace hb3:=bj hb2 hb3;rcases ho:BZ (T j).s (T j).n (T j).C (T j).r (T j).m (T j).R)
   ·
    go_ret
    exact⟨AM (Kf hlt ho).symm,hb3⟩
   ·
    go_roundw
    case rel=>exact⟨j+1,by omega,by go_num,λi hi=>by
     by_cases e:i=j
     · subst e;exact ho
     · exact hall i (by omega),hb3⟩
    case measure=>simp [XX];omega
  ·
   obtain rfl:j=n:=by omega
   go_wp2;go_ret
   exact⟨AM (Ip (by omega) hall).symm,hb2⟩
theorem XJ(a:Option Addr)(n c:Nat)(T:Nat->Td)(w:ο)(hT:SpT w)(h:TL w a n T)(hn:n<=1048576) :
 XR μ 53 #[χ #[σ a n c]] w λe w'=>e=ρ (β (CT n T))/\υ w.heap.size w w':=by
 have hb0:=AE w (γ #[σ a n c] 45);have hX0:=η w (γ #[σ a n c] 45);have c0:(w.alloc (γ #[σ a n c] 45)).cell? ⟨w.heap.size,0,ν⟩=ς (σ a n c):=(ε _ _ 0 _ _ _ hX0).trans rfl;clear hX0;by_cases h0:n=0
 ·
  subst h0;go_enter Tryz.func53,Tryz.ntmps53
  go_wp2;go_ret
  exact⟨rfl,hb0⟩
 have h0':((n:Int) == 0)=false:=by simp;omega
 rcases hq1:GR n T
 ·
  have HF:Hid (CT n T=false):=by show _=_;unfold CT;rw [hq1];rfl
  go_enter Tryz.func53,Tryz.ntmps53
  go_wp2;refine XO (S:=λx=>υ (w.alloc (γ #[σ a n c] 45)).heap.size (w.alloc (γ #[σ a n c] 45)) x) (by kernel_rfl) (BC _) (λjH=>?_);refine tk 0 VD (λx jS=>by go_simp<;>rfl) jH ?_
  try simp only [zS]
  refine tk 1 VC (λx jS=>by have k0:=AB jS c0;go_simp<;>rfl) jH ?_
  try simp only [zS]
  refine rd 2 VB (λK hK=>?_);go_simp;refine(CM _ (hT.later (AA hb0 jH))).mono ?_;rintro e w1 ⟨b,rfl,hKw,hb1⟩;refine hK.out _ _ (AA jH hb1) (λjH=>?_);clear hK K;try simp only [zS]
  refine tk 3 VA (λx jS=>by go_simp<;>rfl) jH ?_
  try simp only [zS]
  refine rd 4 U9 (λK hK=>?_);go_simp;refine(KP b _ _ _ T _ hKw (h.later (AA hb0 jH)) hn (by omega)).mono ?_;rw [hq1];rintro e w2 ⟨rfl,hb2⟩;refine hK.out _ _ (AA jH hb2) (λjH=>?_);clear hK K;try simp only [zS]
  refine tk 5 U8 (λx jS=>by go_simp<;>rfl) jH ?_
  try simp only [zS]
  refine Ao 6 U7 jH ?_;try simp only [zS]
  refine Ao 7 U6 jH ?_;try simp only [zS]
  refine Ao 8 U5 jH ?_;try simp only [zS]
  refine tk 9 U4 (λx jS=>by go_simp<;>rfl) jH ?_
  try simp only [zS]
  refine tk 10 Qs (λx jS=>by go_simp<;>rfl) jH ?_
  try simp only [zS]
  refine XW (by kernel_rfl) ?_ _;go_wp2;go_ret
  exact⟨AM HF.out.symm,AA hb0 jH⟩
 ·
  have HF:Hid (CT n T=Aw n (LL T)):=by show _=_;unfold CT;rw [hq1];rfl
  go_enter Tryz.func53,Tryz.ntmps53
  go_wp2;refine XO (S:=λx=>υ (w.alloc (γ #[σ a n c] 45)).heap.size (w.alloc (γ #[σ a n c] 45)) x) (by kernel_rfl) (BC _) (λjH=>?_);refine tk 0 VD (λx jS=>by go_simp<;>rfl) jH ?_
  try simp only [zS]
  refine tk 1 VC (λx jS=>by have k0:=AB jS c0;go_simp<;>rfl) jH ?_
  try simp only [zS]
  refine rd 2 VB (λK hK=>?_);go_simp;refine(CM _ (hT.later (AA hb0 jH))).mono ?_;rintro e w1 ⟨b,rfl,hKw,hb1⟩;refine hK.out _ _ (AA jH hb1) (λjH=>?_);clear hK K;try simp only [zS]
  refine tk 3 VA (λx jS=>by go_simp<;>rfl) jH ?_
  try simp only [zS]
  refine rd 4 U9 (λK hK=>?_);go_simp;refine(KP b _ _ _ T _ hKw (h.later (AA hb0 jH)) hn (by omega)).mono ?_;rw [hq1];rintro e w2 ⟨rfl,hb2⟩;refine hK.out _ _ (AA jH hb2) (λjH=>?_);clear hK K;try simp only [zS]
  refine tk 5 U8 (λx jS=>by go_simp<;>rfl) jH ?_
  try simp only [zS]
  refine tk 6 U7 (λx jS=>by go_simp<;>rfl) jH ?_
  try simp only [zS]
  refine tk 7 U6 (λx jS=>by have k0:=AB jS c0;go_simp<;>rfl) jH ?_
  try simp only [zS]
  refine rd 8 U5 (λK hK=>?_);go_simp;refine(TK _ _ _ T _ (h.later (AA hb0 jH)) hn).mono ?_;rintro e w3 ⟨rfl,hb3⟩;refine hK.out _ _ (AA jH hb3) (λjH=>?_);clear hK K;try simp only [zS]
  refine tk 9 U4 (λx jS=>by go_simp<;>rfl) jH ?_
  try simp only [zS]
  refine tk 10 Qs (λx jS=>by go_simp<;>rfl) jH ?_
  try simp only [zS]
  refine XW (by kernel_rfl) ?_ _;go_wp2;go_ret
  exact⟨AM HF.out.symm,AA hb0 jH⟩
set_option maxHeartbeats 8000000
abbrev PG:Oper:=⟨ς 17,.load 100 (δ 4),100,"l5_replay.go:57",#[],ν⟩
abbrev PF:Oper:=⟨ς 18,.call ⟨.value (.func 131),#[δ 17],#[100]⟩,4,"l5_replay.go:57",#[⟨0,φ⟩],ν⟩
abbrev PE:Oper:=⟨ς 19,.unOp .not 4 (δ 18),4,"l5_replay.go:57",#[⟨1,φ⟩],ν⟩
abbrev PD:Oper:=⟨ς 20,.move (δ 19),4,"l5_replay.go:57",#[⟨2,φ⟩,⟨1,.chain⟩],ν⟩
abbrev PC:Oper:=⟨ς 21,.move (δ 3),3,"l5_replay.go:57",#[⟨3,.guard⟩],ς (3,false)⟩
abbrev PB:Oper:=⟨ς 22,.binOp .gtr 3 (δ 21) (.const (ι κ 0)) 3,4,"l5_replay.go:57",#[⟨4,φ⟩,⟨3,.guard⟩],ς (3,false)⟩
abbrev PA:Oper:=⟨ς 23,.move (δ 22),4,"l5_replay.go:57",#[⟨5,φ⟩,⟨3,.chain⟩,⟨3,.guard⟩],ς (3,false)⟩
abbrev O9:Oper:=⟨ς 24,.fieldAddr 45 (δ 1) 0,0,"l5_replay.go:57",#[⟨6,.guard⟩],ς (6,true)⟩
abbrev O8:Oper:=⟨ς 25,.load 43 (δ 24),43,"l5_replay.go:57",#[⟨7,φ⟩,⟨6,.guard⟩],ς (6,true)⟩
abbrev O7:Oper:=⟨ς 26,.move (δ 3),3,"l5_replay.go:57",#[⟨6,.guard⟩],ς (6,true)⟩
abbrev Js:Oper:=⟨ς 27,.binOp .sub 3 (δ 26) (.const (ι κ 1)) 3,3,"l5_replay.go:57",#[⟨9,φ⟩,⟨6,.guard⟩],ς (6,true)⟩
abbrev Jr:Oper:=⟨ς 28,.indexAddr 43 (δ 25) (δ 27),0,"l5_replay.go:57",#[⟨8,φ⟩,⟨10,φ⟩,⟨6,.guard⟩],ς (6,true)⟩
abbrev Jq:Oper:=⟨ς 29,.fieldAddr 100 (δ 28) 0,0,"l5_replay.go:57",#[⟨11,φ⟩,⟨6,.guard⟩],ς (6,true)⟩
abbrev Jp:Oper:=⟨ς 30,.load 9 (δ 29),9,"l5_replay.go:57",#[⟨12,φ⟩,⟨6,.guard⟩],ς (6,true)⟩
abbrev Jo:Oper:=⟨ς 31,.fieldAddr 100 (δ 4) 0,0,"l5_replay.go:57",#[⟨6,.guard⟩],ς (6,true)⟩
abbrev Jn:Oper:=⟨ς 32,.load 9 (δ 31),9,"l5_replay.go:57",#[⟨14,φ⟩,⟨6,.guard⟩],ς (6,true)⟩
abbrev Jm:Oper:=⟨ς 33,.binOp .geq 9 (δ 30) (δ 32) 9,4,"l5_replay.go:57",#[⟨13,φ⟩,⟨15,φ⟩,⟨6,.guard⟩],ς (6,true)⟩
abbrev Jl:Oper:=⟨ς 34,.pick (δ 23) (δ 33) (.const (β false)),4,"l5_replay.go:57",#[⟨6,φ⟩,⟨16,φ⟩,⟨3,.guard⟩],ς (3,false)⟩
abbrev Jk:Oper:=⟨ς 35,.pick (δ 20) (.const (β true)) (δ 34),4,"l5_replay.go:57",#[⟨3,φ⟩,⟨17,φ⟩],ν⟩
theorem KE{n k:Nat}{T:Nat->Td}(hk:k<n)(h:D9 (T k)=false∨LL T k=false):CT n T=false:=by
 unfold CT;rcases h with h | h
 · rw [Kf hk h];rfl
 · rw [Ae hk h];simp
theorem XF(g n c:Nat)(T:Nat->Td)(w:ο)(h:TC w g n T)(hn:n<=1048576) :
 XR μ 72 #[χ #[σ (ς ⟨g,0,ν⟩) n c]] w λe w'=>e=ρ (β (CT n T))/\υ w.heap.size w w':=by
 have hb0:=AE w (γ #[σ (ς ⟨g,0,ν⟩) n c] 45);have hX0:=η w (γ #[σ (ς ⟨g,0,ν⟩) n c] 45);have c0:(w.alloc (γ #[σ (ς ⟨g,0,ν⟩) n c] 45)).cell? ⟨w.heap.size,0,ν⟩=ς (σ (ς ⟨g,0,ν⟩) n c):=(ε _ _ 0 _ _ _ hX0).trans rfl;clear hX0;by_cases h1:100<n
 ·
  have h2:(100:Int)<n:=by omega
  have HF:Hid (CT n T=false):=by show _=_;unfold CT;rw [Iq h1];rfl
  go_enter Tryz.func72,Tryz.ntmps72
  go_wp2;go_ret
  exact⟨AM HF.out.symm,hb0⟩
 have h2:¬(100:Int)<n:=by omega
 go_enter Tryz.func72,Tryz.ntmps72
 go_wp2;go_loopw [3,4,12] (λ_ _ i wr=>∃ k:Nat,k<=n/\i=ι κ k/\(∀ j,j<k->D9 (T j)=true/\LL T j=true)/\υ (w.alloc (γ #[σ (ς ⟨g,0,ν⟩) n c] 45)).heap.size (w.alloc (γ #[σ (ς ⟨g,0,ν⟩) n c] 45)) wr) (λ_ _ i _=>n - (XX i).toNat)
 case atStart=>exact⟨0,by omega,rfl,λj hj=>by omega,Xa _ _⟩
 case round=>
  obtain⟨k,hk,rfl,hall,hb⟩:=hrel;have B2:=AA hb0 hb;by_cases hlt:k<n
  ·
   obtain⟨g1,ar,cr,e0,e1,e2,hC,hO,hs⟩:=h.later B2 k hlt;have hR2:=η wr (γ #[τ (T k).s,σ (ς ⟨g1,0,ν⟩) (T k).n (T k).n,σ ar (T k).r cr] 100);have y0:(wr.alloc (γ #[τ (T k).s,σ (ς ⟨g1,0,ν⟩) (T k).n (T k).n,σ ar (T k).r cr] 100)).cell? ⟨wr.heap.size,0,ν⟩=ς (τ (T k).s):=(ε _ _ 0 _ _ _ hR2).trans rfl;have y1:(wr.alloc (γ #[τ (T k).s,σ (ς ⟨g1,0,ν⟩) (T k).n (T k).n,σ ar (T k).r cr] 100)).cell? ⟨wr.heap.size,1,ν⟩=ς (σ (ς ⟨g1,0,ν⟩) (T k).n (T k).n):=(ε _ _ 1 _ _ _ hR2).trans rfl;have y2:(wr.alloc (γ #[τ (T k).s,σ (ς ⟨g1,0,ν⟩) (T k).n (T k).n,σ ar (T k).r cr] 100)).cell? ⟨wr.heap.size,2,ν⟩=ς (σ ar (T k).r cr):=(ε _ _ 2 _ _ _ hR2).trans rfl;clear hR2;have B3:=AE wr (γ #[τ (T k).s,σ (ς ⟨g1,0,ν⟩) (T k).n (T k).n,σ ar (T k).r cr] 100);have x0:=AB B3 (AB hb c0);have i1:(0:Int)<=(k:Int):=by omega
   have i2:(k:Int)<(n:Int):=by omega
   rcases hv:D9 (T k)
   ·
    go_wp2;refine XO (S:=λx=>υ (wr.alloc (γ #[τ (T k).s,σ (ς ⟨g1,0,ν⟩) (T k).n (T k).n,σ ar (T k).r cr] 100)).heap.size (wr.alloc (γ #[τ (T k).s,σ (ς ⟨g1,0,ν⟩) (T k).n (T k).n,σ ar (T k).r cr] 100)) x) (by kernel_rfl) (BC _) (λjH=>?_);refine tk 0 PG (λx jS=>by have k0:=AB jS y0;have k1:=AB jS y1;have k2:=AB jS y2;have k3:=AB jS x0;go_simp<;>rfl) jH ?_
    try simp only [zS]
    refine rd 1 PF (λK hK=>?_);go_simp;refine(OY _ _ _ _ _ _ _ ar cr _ (hC.later (AA B3 jH)) (hO.later (AA B3 jH)) hs).mono ?_;rw [show BZ (T k).s (T k).n (T k).C (T k).r (T k).m (T k).R=_ from hv];rintro e w3 ⟨rfl,hb3⟩
    refine hK.out _ _ (AA jH hb3) (λjH=>?_);clear hK K;try simp only [zS]
    refine tk 2 PE (λx jS=>by go_simp<;>rfl) jH ?_
    try simp only [zS]
    refine tk 3 PD (λx jS=>by go_simp<;>rfl) jH ?_
    try simp only [zS]
    refine Ao 4 PC jH ?_;try simp only [zS]
    refine Ao 5 PB jH ?_;try simp only [zS]
    refine Ao 6 PA jH ?_;try simp only [zS]
    refine Ao 7 O9 jH ?_;try simp only [zS]
    refine Ao 8 O8 jH ?_;try simp only [zS]
    refine Ao 9 O7 jH ?_;try simp only [zS]
    refine Ao 10 Js jH ?_;try simp only [zS]
    refine Ao 11 Jr jH ?_;try simp only [zS]
    refine Ao 12 Jq jH ?_;try simp only [zS]
    refine Ao 13 Jp jH ?_;try simp only [zS]
    refine Ao 14 Jo jH ?_;try simp only [zS]
    refine Ao 15 Jn jH ?_;try simp only [zS]
    refine Ao 16 Jm jH ?_;try simp only [zS]
    refine Ao 17 Jl jH ?_;try simp only [zS]
    refine tk 18 Jk (λx jS=>by go_simp<;>rfl) jH ?_
    try simp only [zS]
    refine XW (by kernel_rfl) ?_ _;go_wp2;go_ret
    exact⟨AM (KE hlt (Xc hv)).symm,AA B2 (AA B3 jH)⟩
   by_cases hk0:k=0
   ·
    subst hk0;go_wp2;refine XO (S:=λx=>υ (wr.alloc (γ #[τ (T 0).s,σ (ς ⟨g1,0,ν⟩) (T 0).n (T 0).n,σ ar (T 0).r cr] 100)).heap.size (wr.alloc (γ #[τ (T 0).s,σ (ς ⟨g1,0,ν⟩) (T 0).n (T 0).n,σ ar (T 0).r cr] 100)) x) (by kernel_rfl) (BC _) (λjH=>?_);refine tk 0 PG (λx jS=>by have k0:=AB jS y0;have k1:=AB jS y1;have k2:=AB jS y2;have k3:=AB jS x0;go_simp<;>rfl) jH ?_
    try simp only [zS]
    refine rd 1 PF (λK hK=>?_);go_simp;refine(OY _ _ _ _ _ _ _ ar cr _ (hC.later (AA B3 jH)) (hO.later (AA B3 jH)) hs).mono ?_;rw [show BZ (T 0).s (T 0).n (T 0).C (T 0).r (T 0).m (T 0).R=_ from hv];rintro e w3 ⟨rfl,hb3⟩
    refine hK.out _ _ (AA jH hb3) (λjH=>?_);clear hK K;try simp only [zS]
    refine tk 2 PE (λx jS=>by go_simp<;>rfl) jH ?_
    try simp only [zS]
    refine tk 3 PD (λx jS=>by go_simp<;>rfl) jH ?_
    try simp only [zS]
    refine tk 4 PC (λx jS=>by go_simp<;>rfl) jH ?_
    try simp only [zS]
    refine tk 5 PB (λx jS=>by go_simp<;>rfl) jH ?_
    try simp only [zS]
    refine tk 6 PA (λx jS=>by go_simp<;>rfl) jH ?_
    try simp only [zS]
    refine Ao 7 O9 jH ?_;try simp only [zS]
    refine Ao 8 O8 jH ?_;try simp only [zS]
    refine Ao 9 O7 jH ?_;try simp only [zS]
    refine Ao 10 Js jH ?_;try simp only [zS]
    refine Ao 11 Jr jH ?_;try simp only [zS]
    refine Ao 12 Jq jH ?_;try simp only [zS]
    refine Ao 13 Jp jH ?_;try simp only [zS]
    refine Ao 14 Jo jH ?_;try simp only [zS]
    refine Ao 15 Jn jH ?_;try simp only [zS]
    refine Ao 16 Jm jH ?_;try simp only [zS]
    refine tk 17 Jl (λx jS=>by go_simp<;>rfl) jH ?_
    try simp only [zS]
    refine tk 18 Jk (λx jS=>by go_simp<;>rfl) jH ?_
    try simp only [zS]
    refine XW (by kernel_rfl) ?_ _;go_wp2;go_roundw
    case rel=>exact⟨0+1,by omega,by go_num,λj hj=>by
     obtain rfl:j=0:=by omega
     exact⟨hv,rfl⟩,AA hb (AA B3 jH)⟩
    case measure=>simp [XX];omega
   obtain⟨p,rfl⟩:∃ p,k=p+1:=⟨k - 1,by omega⟩;obtain⟨-,-,-,q0,-,-,-,-,-⟩:=h.later B2 p (by omega);have p0:=AB B3 q0;have i0:(0:Int)<=(p:Int):=by omega
   have i4:(p:Int)<(n:Int):=by omega
   have i3:IntKind.i64.wrap (p:Int)=(p:Int):=by rw [IntKind.wrap_i64];omega
   have i5:(0:Int)<(p:Int)+1:=by omega
   rcases h7:Xh (T p).s.toList (T (p+1)).s.toList
   ·
    go_wp2;refine XO (S:=λx=>υ (wr.alloc (γ #[τ (T (p+1)).s,σ (ς ⟨g1,0,ν⟩) (T (p+1)).n (T (p+1)).n,σ ar (T (p+1)).r cr] 100)).heap.size (wr.alloc (γ #[τ (T (p+1)).s,σ (ς ⟨g1,0,ν⟩) (T (p+1)).n (T (p+1)).n,σ ar (T (p+1)).r cr] 100)) x) (by kernel_rfl) (BC _) (λjH=>?_);refine tk 0 PG (λx jS=>by have k0:=AB jS y0;have k1:=AB jS y1;have k2:=AB jS y2;have k3:=AB jS x0;have k4:=AB jS p0;go_simp<;>rfl) jH ?_
    try simp only [zS]
    refine rd 1 PF (λK hK=>?_);go_simp;refine(OY _ _ _ _ _ _ _ ar cr _ (hC.later (AA B3 jH)) (hO.later (AA B3 jH)) hs).mono ?_;rw [show BZ (T (p+1)).s (T (p+1)).n (T (p+1)).C (T (p+1)).r (T (p+1)).m (T (p+1)).R=_ from hv];rintro e w3 ⟨rfl,hb3⟩
    refine hK.out _ _ (AA jH hb3) (λjH=>?_);clear hK K;try simp only [zS]
    refine tk 2 PE (λx jS=>by go_simp<;>rfl) jH ?_
    try simp only [zS]
    refine tk 3 PD (λx jS=>by go_simp<;>rfl) jH ?_
    try simp only [zS]
    refine tk 4 PC (λx jS=>by go_simp<;>rfl) jH ?_
    try simp only [zS]
    refine tk 5 PB (λx jS=>by go_simp<;>rfl) jH ?_
    try simp only [zS]
    refine tk 6 PA (λx jS=>by go_simp<;>rfl) jH ?_
    try simp only [zS]
    refine tk 7 O9 (λx jS=>by go_simp<;>rfl) jH ?_
    try simp only [zS]
    refine tk 8 O8 (λx jS=>by have k0:=AB jS y0;have k1:=AB jS y1;have k2:=AB jS y2;have k3:=AB jS x0;have k4:=AB jS p0;go_simp<;>rfl) jH ?_
    try simp only [zS]
    refine tk 9 O7 (λx jS=>by go_simp<;>rfl) jH ?_
    try simp only [zS]
    refine tk 10 Js (v:=ι κ (p:Int)) (λx jS=>by go_simp<;>rfl) jH ?_
    try simp only [zS]
    refine tk 11 Jr (v:=ψ (ς ⟨g,p * 3,ν⟩)) (λx jS=>by go_simp<;>rfl) jH ?_
    try simp only [zS]
    refine tk 12 Jq (v:=ψ (ς ⟨g,p * 3,ν⟩)) (λx jS=>by go_simp<;>rfl) jH ?_
    try simp only [zS]
    refine tk 13 Jp (λx jS=>by have k0:=AB jS y0;have k1:=AB jS y1;have k2:=AB jS y2;have k3:=AB jS x0;have k4:=AB jS p0;go_simp<;>rfl) jH ?_
    try simp only [zS]
    refine tk 14 Jo (λx jS=>by go_simp<;>rfl) jH ?_
    try simp only [zS]
    refine tk 15 Jn (λx jS=>by have k0:=AB jS y0;have k1:=AB jS y1;have k2:=AB jS y2;have k3:=AB jS x0;have k4:=AB jS p0;go_simp<;>rfl) jH ?_
    try simp only [zS]
    refine tk 16 Jm (λx jS=>by go_simp<;>rfl) jH ?_
    try simp only [zS]
    refine tk 17 Jl (λx jS=>by go_simp<;>rfl) jH ?_
    try simp only [zS]
    refine tk 18 Jk (λx jS=>by go_simp<;>rfl) jH ?_
    try simp only [zS]
    refine XW (by kernel_rfl) ?_ _;go_wp2;go_ret
    exact⟨AM (KE hlt (Xi (by unfold LL;rw [Nat.add_sub_cancel,h7];simp))).symm,AA B2 (AA B3 jH)⟩
   ·
    go_wp2;refine XO (S:=λx=>υ (wr.alloc (γ #[τ (T (p+1)).s,σ (ς ⟨g1,0,ν⟩) (T (p+1)).n (T (p+1)).n,σ ar (T (p+1)).r cr] 100)).heap.size (wr.alloc (γ #[τ (T (p+1)).s,σ (ς ⟨g1,0,ν⟩) (T (p+1)).n (T (p+1)).n,σ ar (T (p+1)).r cr] 100)) x) (by kernel_rfl) (BC _) (λjH=>?_);refine tk 0 PG (λx jS=>by have k0:=AB jS y0;have k1:=AB jS y1;have k2:=AB jS y2;have k3:=AB jS x0;have k4:=AB jS p0;go_simp<;>rfl) jH ?_
    try simp only [zS]
    refine rd 1 PF (λK hK=>?_);go_simp;refine(OY _ _ _ _ _ _ _ ar cr _ (hC.later (AA B3 jH)) (hO.later (AA B3 jH)) hs).mono ?_;rw [show BZ (T (p+1)).s (T (p+1)).n (T (p+1)).C (T (p+1)).r (T (p+1)).m (T (p+1)).R=_ from hv];rintro e w3 ⟨rfl,hb3⟩
    refine hK.out _ _ (AA jH hb3) (λjH=>?_);clear hK K;try simp only [zS]
    refine tk 2 PE (λx jS=>by go_simp<;>rfl) jH ?_
    try simp only [zS]
    refine tk 3 PD (λx jS=>by go_simp<;>rfl) jH ?_
    try simp only [zS]
    refine tk 4 PC (λx jS=>by go_simp<;>rfl) jH ?_
    try simp only [zS]
    refine tk 5 PB (λx jS=>by go_simp<;>rfl) jH ?_
    try simp only [zS]
    refine tk 6 PA (λx jS=>by go_simp<;>rfl) jH ?_
    try simp only [zS]
    refine tk 7 O9 (λx jS=>by go_simp<;>rfl) jH ?_
    try simp only [zS]
    refine tk 8 O8 (λx jS=>by have k0:=AB jS y0;have k1:=AB jS y1;have k2:=AB jS y2;have k3:=AB jS x0;have k4:=AB jS p0;go_simp<;>rfl) jH ?_
    try simp only [zS]
    refine tk 9 O7 (λx jS=>by go_simp<;>rfl) jH ?_
    try simp only [zS]
    refine tk 10 Js (v:=ι κ (p:Int)) (λx jS=>by go_simp<;>rfl) jH ?_
    try simp only [zS]
    refine tk 11 Jr (v:=ψ (ς ⟨g,p * 3,ν⟩)) (λx jS=>by go_simp<;>rfl) jH ?_
    try simp only [zS]
    refine tk 12 Jq (v:=ψ (ς ⟨g,p * 3,ν⟩)) (λx jS=>by go_simp<;>rfl) jH ?_
    try simp only [zS]
    refine tk 13 Jp (λx jS=>by have k0:=AB jS y0;have k1:=AB jS y1;have k2:=AB jS y2;have k3:=AB jS x0;have k4:=AB jS p0;go_simp<;>rfl) jH ?_
    try simp only [zS]
    refine tk 14 Jo (λx jS=>by go_simp<;>rfl) jH ?_
    try simp only [zS]
    refine tk 15 Jn (λx jS=>by have k0:=AB jS y0;have k1:=AB jS y1;have k2:=AB jS y2;have k3:=AB jS x0;have k4:=AB jS p0;go_simp<;>rfl) jH ?_
    try simp only [zS]
    refine tk 16 Jm (λx jS=>by go_simp<;>rfl) jH ?_
    try simp only [zS]
    refine tk 17 Jl (λx jS=>by go_simp<;>rfl) jH ?_
    try simp only [zS]
    refine tk 18 Jk (λx jS=>by go_simp<;>rfl) jH ?_
    try simp only [zS]
    refine XW (by kernel_rfl) ?_ _;go_wp2;go_roundw
    case rel=>exact⟨p+1+1,by omega,by go_num,λj hj=>by
     by_cases e:j=p+1
     · subst e;exact⟨hv,by unfold LL;rw [Nat.add_sub_cancel,h7];simp⟩
     · exact hall j (by omega),AA hb (AA B3 jH)⟩
    case measure=>simp [XX];omega
  ·
   obtain rfl:k=n:=by omega
   go_wp2;go_ret
   exact⟨AM (by unfold CT;rw [Ip (by omega) λj hj=>(hall j hj).1,Az λj hj=>(hall j hj).2];rfl),B2⟩
