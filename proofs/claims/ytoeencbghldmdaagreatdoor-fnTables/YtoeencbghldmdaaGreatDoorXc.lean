import Derived.Test.YtoeencbghldmdaaGreatDoorTo
import Derived.Test.YtoeencbghldmdaaGreatDoorUf
import Derived.Deep.RegionHeld3
open Bool renaming and_eq_true → VO
open Go renaming Calls → VK, World → ο, cell_of_row → ε, heap_alloc_new → η, wpAnyH_done → VP, wp_region_held_drew → VH, Value → VN
open Go.Ending renaming returned → ρ
open Go.Ground renaming data → φ
open Go.IntKind renaming i64 → κ
open Go.Obj renaming cells → γ
open Go.Op renaming bytesLess → Va
open Go.Operand renaming tmp → δ
open Go.Proofs.Tryz renaming prog → μ
open Go.RowKit renaming Below → υ, intOf → VQ
open Go.RowKit.Below renaming refl → VT
open Go.Value renaming bool → β, int → ι, slice → σ, string → τ, agg → χ, pointer → ψ, tuple → θ
open Nat renaming le_refl → VD, le_trans → VX
open Option renaming none → ν, some → ς
open Option.some renaming inj → VF
open Or renaming inl → VV, inr → Vb
namespace Go.Proofs.YtoeencbghldmdaaGreatDoor
open Go.RowKit Go.Maps Go.WideMaps
set_option maxRecDepth 20000
set_option maxHeartbeats 4000000
abbrev Se:Oper:=⟨ς 21,.binOp .neq 60 (δ 17) (δ 20) 60,4,"l5_replay.go:95",#[⟨4,φ⟩,⟨7,φ⟩,⟨3,.guard⟩],ς (3,true)⟩
theorem Ud(a:Option Addr)(n c:Nat)(I:Nat->Itm)(a':Option Addr)(n' c':Nat)(C:Nat->Clm)(w:ο)(h:IL w a n I)(h':CL w a' n' C)(hn:n<=1048576)(hn':n'<=1048576) :
 VK μ 98 #[σ a n c,σ a' n' c'] w λe w'=>e=ρ (β (GY n I n' C))/\υ w.heap.size w w':=by
 have hb0:=VT w.heap.size w;go_enter Tryz.func98,Tryz.ntmps98
 go_wp2;go_loopw [6,9] (λ_ i wr=>∃ k:Nat,k<=n/\i=ι κ k/\(∀ j,j<k->Gr (I j).o (I j).m (I j).s=true)/\υ w.heap.size w wr) (λ_ i _=>n - (VQ i).toNat)
 case atStart=>exact⟨0,by omega,rfl,λj hj=>by omega,hb0⟩
 case round=>
  obtain⟨k,hk,rfl,hall,hb⟩:=hrel;by_cases hlt:k<n
  ·
   obtain⟨b,off,rfl,d0,d1,d2,hs⟩:=h.later hb k hlt;have hR:=η wr (γ #[ι κ (I k).o,ι κ (I k).m,τ (I k).s] 60);have c0:(wr.alloc (γ #[ι κ (I k).o,ι κ (I k).m,τ (I k).s] 60)).cell? ⟨wr.heap.size,0,ν⟩=ς (ι κ (I k).o):=(ε _ _ 0 _ _ _ hR).trans rfl;have c1:(wr.alloc (γ #[ι κ (I k).o,ι κ (I k).m,τ (I k).s] 60)).cell? ⟨wr.heap.size,1,ν⟩=ς (ι κ (I k).m):=(ε _ _ 1 _ _ _ hR).trans rfl;have c2:(wr.alloc (γ #[ι κ (I k).o,ι κ (I k).m,τ (I k).s] 60)).cell? ⟨wr.heap.size,2,ν⟩=ς (τ (I k).s):=(ε _ _ 2 _ _ _ hR).trans rfl;clear hR;rcases hv:Aa (I k).o (I k).m (I k).s
   rotate_left
   ·
    go_wp2;refine VH (S:=λx=>υ (wr.alloc (γ #[ι κ (I k).o,ι κ (I k).m,τ (I k).s] 60)).heap.size (wr.alloc (γ #[ι κ (I k).o,ι κ (I k).m,τ (I k).s] 60)) x) (by kernel_rfl) (Ar _) (λjH=>?_);refine tk 0 jH ?_ (hy:=λx jS=>by have k0:=AB jS c0;have k1:=AB jS c1;have k2:=AB jS c2;go_simp<;>rfl)
    try simp only [zS]
    refine rd 1 (λK hK=>?_);go_simp;refine(JD _ _ _ _ hs).mono ?_;rw [hv];rintro e w1 ⟨rfl,hb1⟩;refine hK.out _ _ (AA jH hb1) (λjH=>?_);clear hK K;try simp only [zS]
    refine tk 2 jH ?_;refine tk 3 jH ?_;refine A7 4 jH ?_;refine A7 5 jH ?_;refine A7 6 jH ?_;refine A7 7 jH ?_;refine A7 8 jH ?_;refine tk 9 jH ?_
    try simp only [zS]
    refine VP (by kernel_rfl) ?_ _;go_wp2;go_roundw
    case rel=>exact⟨k+1,by omega,by go_num,λj hj=>by
     by_cases e:j=k
     · subst e;unfold Gr;rw [hv];rfl
     · exact hall j (by omega),AA hb (AA (AD _ _) jH)⟩
    case measure=>simp [VQ];omega
   rcases hw:((I k).o == 1 && decide ((I k).s.size=0))
   ·
    go_wp2;refine VH (S:=λx=>υ (wr.alloc (γ #[ι κ (I k).o,ι κ (I k).m,τ (I k).s] 60)).heap.size (wr.alloc (γ #[ι κ (I k).o,ι κ (I k).m,τ (I k).s] 60)) x) (by kernel_rfl) (Ar _) (λjH=>?_);refine tk 0 jH ?_ (hy:=λx jS=>by have k0:=AB jS c0;have k1:=AB jS c1;have k2:=AB jS c2;go_simp<;>rfl)
    try simp only [zS]
    refine rd 1 (λK hK=>?_);go_simp;refine(JD _ _ _ _ hs).mono ?_;rw [hv];rintro e w1 ⟨rfl,hb1⟩;refine hK.out _ _ (AA jH hb1) (λjH=>?_);clear hK K;try simp only [zS]
    refine tk 2 jH ?_;refine tk 3 jH ?_;refine tk 4 jH ?_ (hy:=λx jS=>by have k0:=AB jS c0;have k1:=AB jS c1;have k2:=AB jS c2;go_simp<;>rfl)
    try simp only [zS]
    refine tk 5 jH ?_;refine tk 6 jH ?_ (hy:=λx jS=>by have k0:=AB jS c0;have k1:=AB jS c1;have k2:=AB jS c2;go_simp<;>rfl)
    try simp only [zS]
    refine rd 7 (λK hK=>?_);go_simp;refine(Ca _ _).mono ?_;rintro e w2 ⟨rfl,hb2⟩;refine hK.out _ _ (AA jH hb2) (λjH=>?_);clear hK K;try simp only [zS]
    refine wpAnyH_take (i:=8) (oi:=Se) (v:=β true) rfl (by kernel_rfl) (by kernel_rfl) (by kernel_rfl) (λ_ _ _ h=>h) (VV ⟨by rfl,λx jS=>(by go_simp;intro e1 e2;rw [e1,(show (I k).s.size=0 from (BY _).1 e2)] at hw;exact absurd hw (by decide))⟩) jH ?_
    try simp only [zS]
    refine tk 9 jH ?_
    try simp only [zS]
    refine VP (by kernel_rfl) ?_ _;go_wp2;go_ret
    exact⟨AN (by unfold GY;rw [Am hlt (show Gr (I k).o (I k).m (I k).s=false by unfold Gr;rw [hv,hw];rfl)];rfl),AA hb (AA (AD _ _) jH)⟩
   ·
    go_wp2;refine VH (S:=λx=>υ (wr.alloc (γ #[ι κ (I k).o,ι κ (I k).m,τ (I k).s] 60)).heap.size (wr.alloc (γ #[ι κ (I k).o,ι κ (I k).m,τ (I k).s] 60)) x) (by kernel_rfl) (Ar _) (λjH=>?_);refine tk 0 jH ?_ (hy:=λx jS=>by have k0:=AB jS c0;have k1:=AB jS c1;have k2:=AB jS c2;go_simp<;>rfl)
    try simp only [zS]
    refine rd 1 (λK hK=>?_);go_simp;refine(JD _ _ _ _ hs).mono ?_;rw [hv];rintro e w1 ⟨rfl,hb1⟩;refine hK.out _ _ (AA jH hb1) (λjH=>?_);clear hK K;try simp only [zS]
    refine tk 2 jH ?_;refine tk 3 jH ?_;refine tk 4 jH ?_ (hy:=λx jS=>by have k0:=AB jS c0;have k1:=AB jS c1;have k2:=AB jS c2;go_simp<;>rfl)
    try simp only [zS]
    refine tk 5 jH ?_;refine tk 6 jH ?_ (hy:=λx jS=>by have k0:=AB jS c0;have k1:=AB jS c1;have k2:=AB jS c2;go_simp<;>rfl)
    try simp only [zS]
    refine rd 7 (λK hK=>?_);go_simp;refine(Ca _ _).mono ?_;rintro e w2 ⟨rfl,hb2⟩;refine hK.out _ _ (AA jH hb2) (λjH=>?_);clear hK K;try simp only [zS]
    refine wpAnyH_take (i:=8) (oi:=Se) (v:=β false) rfl (by kernel_rfl) (by kernel_rfl) (by kernel_rfl) (λ_ _ _ h=>h) (VV ⟨by rfl,λx jS=>(by go_simp;have q:=hw;rw [VO,beq_iff_eq,decide_eq_true_eq] at q;rw [if_pos q.1,if_pos ((BY _).2 q.2)])⟩) jH ?_;try simp only [zS]
    refine tk 9 jH ?_
    try simp only [zS]
    refine VP (by kernel_rfl) ?_ _;go_wp2;go_roundw
    case rel=>exact⟨k+1,by omega,by go_num,λj hj=>by
     by_cases e:j=k
     · subst e;unfold Gr;rw [hw];simp
     · exact hall j (by omega),AA hb (AA (AD _ _) jH)⟩
    case measure=>simp [VQ];omega
  ·
   obtain rfl:k=n:=by omega
   go_wp2_with (go_at_call 114;refine(Hb _ _ _ _ _ _ _ _ _ (h.later hb) (h'.later hb) hn hn').mono ?_;rintro e w1 ⟨rfl,hb1⟩)
   go_ret
   exact⟨AN (by unfold GY;rw [Ak hall];rfl),AA hb hb1⟩
set_option maxHeartbeats 8000000
theorem De{s:ByteArray}{n:Nat}{C:Nat->Clm}{r:Nat}{m:Nat->Nat}{R:Nat->Nat->Itm}(h:En s n C r m R=false):Bk s n C r m R=false:=by rw [←LW];exact h
theorem Rd(b:Nat)(s:ByteArray)(n:Nat)(C:Nat->Clm)(r:Nat)(m:Nat->Nat)(R:Nat->Nat->Itm)(ac:Option Addr)(cc:Nat)(ar:Option Addr)(cr:Nat)(w:ο)(hK:KwAt w b)(hC:CL w ac n C)(hR:OL w ar r m R)(hsm:Sm3 ⟨s,n,C,r,m,R⟩) :
 VK μ 59 #[.map (ς b),χ #[τ s,σ ac n cc,σ ar r cr]] w λe w'=>e=ρ (β (Bk s n C r m R))/\υ w.heap.size w w':=by
 have hb0:=AD w (γ #[τ s,σ ac n cc,σ ar r cr] 67);have hX0:=η w (γ #[τ s,σ ac n cc,σ ar r cr] 67);have hss:=hsm.s;have hn:=hsm.co.1;have hrr:=hsm.ro.1;dsimp only at hss hn hrr
 have c0:(w.alloc (γ #[τ s,σ ac n cc,σ ar r cr] 67)).cell? ⟨w.heap.size,0,ν⟩=ς (τ s):=(ε _ _ 0 _ _ _ hX0).trans rfl;have c1:(w.alloc (γ #[τ s,σ ac n cc,σ ar r cr] 67)).cell? ⟨w.heap.size,1,ν⟩=ς (σ ac n cc):=(ε _ _ 1 _ _ _ hX0).trans rfl;have c2:(w.alloc (γ #[τ s,σ ac n cc,σ ar r cr] 67)).cell? ⟨w.heap.size,2,ν⟩=ς (σ ar r cr):=(ε _ _ 2 _ _ _ hX0).trans rfl;clear hX0;rcases hq1:AM s
 ·
  have HF:Hid (Bk s n C r m R=false):=De (by unfold En;rw [hq1];rfl);go_enter Tryz.func59,Tryz.ntmps59
  go_wp2_with (go_at_call 62;refine(Df b s _ (hK.later hb0) hss).mono ?_;rw [hq1];rintro e w1 ⟨rfl,hb1⟩;have d1:=AB hb1 c1;have d2:=AB hb1 c2)
  go_ret
  exact⟨AN HF.out.symm,AA hb0 hb1⟩
 rcases hq2:(Bn n 1 20 && allN n (λj=>BI (C j).s (C j).t))
 ·
  have HF:Hid (Bk s n C r m R=false):=De (by unfold En;rw [hq1,hq2];rfl);go_enter Tryz.func59,Tryz.ntmps59
  go_wp2_with (first | (go_at_call 62;refine(Df b s _ (hK.later hb0) hss).mono ?_;rw [hq1];rintro e w1 ⟨rfl,hb1⟩;have d1:=AB hb1 c1;have d2:=AB hb1 c2) | (go_at_call 64;refine(Fq b _ _ _ C _ (hK.later (AA hb0 hb1)) (hC.later (AA hb0 hb1)) hn).mono ?_;rw [hq2];rintro e w2 ⟨rfl,hb2⟩;have e1:=AB hb2 d1;have e2:=AB hb2 d2))
  go_ret
  exact⟨AN HF.out.symm,AA hb0 (AA hb1 hb2)⟩
 rcases hq3:DW C n
 ·
  have HF:Hid (Bk s n C r m R=false):=De (by unfold En;rw [hq1,hq2,hq3];rfl);go_enter Tryz.func59,Tryz.ntmps59
  go_wp2_with (first | (go_at_call 62;refine(Df b s _ (hK.later hb0) hss).mono ?_;rw [hq1];rintro e w1 ⟨rfl,hb1⟩;have d1:=AB hb1 c1;have d2:=AB hb1 c2) | (go_at_call 64;refine(Fq b _ _ _ C _ (hK.later (AA hb0 hb1)) (hC.later (AA hb0 hb1)) hn).mono ?_;rw [hq2];rintro e w2 ⟨rfl,hb2⟩;have e1:=AB hb2 d1;have e2:=AB hb2 d2) | (go_at_call 97;refine(Cp _ _ _ C _ (hC.later (AA hb0 (AA hb1 hb2))) hn).mono ?_;rw [hq3];rintro e w3 ⟨rfl,hb3⟩;have f1:=AB hb3 e1;have f2:=AB hb3 e2;have B3:υ w.heap.size w w3:=AA hb0 (AA hb1 (AA hb2 hb3))))
  go_ret
  exact⟨AN HF.out.symm,B3⟩
 by_cases hq4:r<=1000
 rotate_left
 ·
  have HF:Hid (Bk s n C r m R=false):=De (by unfold En;rw [decide_eq_false hq4];simp);have hq5:(1000:Int)<r:=by omega
  go_enter Tryz.func59,Tryz.ntmps59
  go_wp2_with (first | (go_at_call 62;refine(Df b s _ (hK.later hb0) hss).mono ?_;rw [hq1];rintro e w1 ⟨rfl,hb1⟩;have d1:=AB hb1 c1;have d2:=AB hb1 c2) | (go_at_call 64;refine(Fq b _ _ _ C _ (hK.later (AA hb0 hb1)) (hC.later (AA hb0 hb1)) hn).mono ?_;rw [hq2];rintro e w2 ⟨rfl,hb2⟩;have e1:=AB hb2 d1;have e2:=AB hb2 d2) | (go_at_call 97;refine(Cp _ _ _ C _ (hC.later (AA hb0 (AA hb1 hb2))) hn).mono ?_;rw [hq3];rintro e w3 ⟨rfl,hb3⟩;have f1:=AB hb3 e1;have f2:=AB hb3 e2;have B3:υ w.heap.size w w3:=AA hb0 (AA hb1 (AA hb2 hb3))))
  go_ret
  exact⟨AN HF.out.symm,B3⟩
 have hq5:¬(1000:Int)<r:=by omega
 have h0:0<n:=by
  rw [VO] at hq2;have:=hq2.1;unfold Bn at this;simp at this
  omega
 have HT:∀ x:Bool,allN r (λi=>GY (m i) (R i) n C)=x->Hid (Bk s n C r m R=(x && Gw C r R)):=λx hx=>by
  show _=_
  rw [←LW];unfold En;rw [hq1,hq2,hq3,decide_eq_true hq4,hx];rfl
 go_enter Tryz.func59,Tryz.ntmps59
 go_wp2_with (first | (go_at_call 62;refine(Df b s _ (hK.later hb0) hss).mono ?_;rw [hq1];rintro e w1 ⟨rfl,hb1⟩;have d1:=AB hb1 c1;have d2:=AB hb1 c2) | (go_at_call 64;refine(Fq b _ _ _ C _ (hK.later (AA hb0 hb1)) (hC.later (AA hb0 hb1)) hn).mono ?_;rw [hq2];rintro e w2 ⟨rfl,hb2⟩;have e1:=AB hb2 d1;have e2:=AB hb2 d2) | (go_at_call 97;refine(Cp _ _ _ C _ (hC.later (AA hb0 (AA hb1 hb2))) hn).mono ?_;rw [hq3];rintro e w3 ⟨rfl,hb3⟩;have f1:=AB hb3 e1;have f2:=AB hb3 e2;have B3:υ w.heap.size w w3:=AA hb0 (AA hb1 (AA hb2 hb3))))
 clear c0 c1 c2 d1 d2 e1 e2;go_loopw [6,35] (λ_ i wr=>∃ k:Nat,k<=r/\i=ι κ k/\(∀ j,j<k->GY (m j) (R j) n C=true)/\υ w3.heap.size w3 wr) (λ_ i _=>r - (VQ i).toNat)
 case atStart=>exact⟨0,by omega,rfl,λj hj=>by omega,VT _ _⟩
 case round=>
  obtain⟨k,hk,rfl,hall,hb⟩:=hrel;have g1:=AB hb f1;have g2:=AB hb f2;have B4:=AA B3 hb;by_cases hlt:k<r
  ·
   obtain⟨b',off,i,c',rfl,d0,di,dm⟩:=hR.later B4 k hlt;go_wp2_with (go_at_call 98;refine(Ud _ _ _ _ _ _ _ _ _ di (hC.later B4) dm hn).mono ?_;rintro e w4 ⟨rfl,hb4⟩;rcases ho:GY (m k) (R k) n C)
   ·
    go_ret
    exact⟨AN (by rw [(HT false (Am (p:=λi=>GY (m i) (R i) n C) hlt ho)).out];rfl),AA B4 hb4⟩
   ·
    go_roundw
    case rel=>exact⟨k+1,by omega,by go_num,λi hi=>by
     by_cases e:i=k
     · subst e;exact ho
     · exact hall i (by omega),AA hb hb4⟩
    case measure=>simp [VQ];omega
  ·
   obtain rfl:k=r:=by omega
   have HQ:=HT true (Ak hall);have hm0:∀ j,j<k->0<m j:=λj hj=>by
    have:=hall j hj;unfold GY BA at this;rw [VO,VO,decide_eq_true_eq] at this;have:=this.2.1;omega
   have HM:Hid (∀ j,j<k->0<m j):=hm0;clear hm0 HT;obtain⟨b',off',rfl,u0,u1,-⟩:=hC.later B4 0 h0;have i0:(0:Int)<(n:Int):=by omega
   rcases ht:((C 0).t == 1)
   ·
    go_wp2_with (go_at_call 101;refine(Re _ _ _ m R _ (hR.later B4) HM.out hrr).mono ?_;rintro e w5 ⟨rfl,hb5⟩)
    go_ret
    exact⟨AN (by rw [HQ.out];unfold Gw;rw [ht];rfl),AA B4 hb5⟩
   ·
    go_wp2_with (go_at_call 99;refine(Rf _ _ _ m R _ (hR.later B4) HM.out hrr).mono ?_;rintro e w5 ⟨rfl,hb5⟩)
    go_ret
    exact⟨AN (by rw [HQ.out];unfold Gw;rw [ht];rfl),AA B4 hb5⟩
set_option maxHeartbeats 4000000
def Br(d:Td):Bool:=Bk d.s d.n d.C d.r d.m d.R
def Ga(n:Nat)(T:Nat->Td):Bool:=decide (n<=100) && allN n (λk=>Br (T k))
def A2(n:Nat)(T:Nat->Td):Bool:=Ga n T && allN n (Ki T)
theorem Kb{n:Nat}{T:Nat->Td}(h:100<n):Ga n T=false:=by unfold Ga;rw [decide_eq_false (by omega)];rfl
theorem MK{n k:Nat}{T:Nat->Td}(hk:k<n)(h:Br (T k)=false):Ga n T=false:=by unfold Ga;rw [Am (p:=λk=>Br (T k)) hk h];simp
theorem Hr{n:Nat}{T:Nat->Td}(hn:n<=100)(h:∀ k,k<n->Br (T k)=true):Ga n T=true:=by unfold Ga;rw [Ak h,decide_eq_true hn];rfl
theorem L1(b:Nat)(a:Option Addr)(n c:Nat)(T:Nat->Td)(w:ο)(hK:KwAt w b)(h:TL w a n T)(hn:n<=1048576)(h0:0<n) :
 VK μ 57 #[σ a n c,ι κ 100,.func (.func 59) #[.map (ς b)] #[]] w λe w'=>e=ρ (β (Ga n T))/\υ w.heap.size w w':=by
 have hb0:=VT w.heap.size w;go_enter Tryz.func57,Tryz.ntmps57
 have h0':((n:Int) == 0)=false:=by simp;omega
 by_cases h20:100<n
 ·
  have h20':(100:Int)<n:=by omega
  go_wp2;go_ret
  exact⟨AN (Kb h20).symm,hb0⟩
 have h20':(n:Int)<=100:=by omega
 go_wp2;go_loopw [20] (λi wr=>∃ k:Nat,k<=n/\i=ι κ k/\(∀ j,j<k->Br (T j)=true)/\υ w.heap.size w wr) (λi _=>n - (VQ i).toNat)
 case atStart=>exact⟨0,by omega,rfl,λj hj=>by omega,hb0⟩
 case round=>
  obtain⟨j,hj,rfl,hall,hb2⟩:=hrel;by_cases hlt:j<n
  ·
   obtain⟨b',off,ac,cc,ar,cr,rfl,d0,d1,d2,hC,hO,hs⟩:=h.later hb2 j hlt;have hB:=AD wr (γ #[τ (T j).s,σ ac (T j).n cc,σ ar (T j).r cr] 67);have hK2:=hK.later (AA hb2 hB);have hC2:=hC.later hB;have hO2:=hO.later hB;go_wp2_with (go_at_call 59;refine(Rd b _ _ _ _ _ _ ac cc ar cr _ hK2 hC2 hO2 hs).mono ?_;rintro e w3 ⟨rfl,hb3⟩;replace hb3:=bj hb2 hb3;rcases ho:Bk (T j).s (T j).n (T j).C (T j).r (T j).m (T j).R)
   ·
    go_ret
    exact⟨AN (MK hlt ho).symm,hb3⟩
   ·
    go_roundw
    case rel=>exact⟨j+1,by omega,by go_num,λi hi=>by
     by_cases e:i=j
     · subst e;exact ho
     · exact hall i (by omega),hb3⟩
    case measure=>simp [VQ];omega
  ·
   obtain rfl:j=n:=by omega
   go_wp2;go_ret
   exact⟨AN (Hr (by omega) hall).symm,hb2⟩
theorem Uw(a:Option Addr)(n c:Nat)(T:Nat->Td)(w:ο)(hT:SpT w)(h:TL w a n T)(hn:n<=1048576) :
 VK μ 27 #[χ #[σ a n c]] w λe w'=>e=ρ (β (A2 n T))/\υ w.heap.size w w':=by
 have hb0:=AD w (γ #[σ a n c] 28);have hX0:=η w (γ #[σ a n c] 28);have c0:(w.alloc (γ #[σ a n c] 28)).cell? ⟨w.heap.size,0,ν⟩=ς (σ a n c):=(ε _ _ 0 _ _ _ hX0).trans rfl;clear hX0;by_cases h0:n=0
 ·
  subst h0;go_enter Tryz.func27,Tryz.ntmps27
  go_wp2;go_ret
  exact⟨rfl,hb0⟩
 have h0':((n:Int) == 0)=false:=by simp;omega
 rcases hq1:Ga n T
 ·
  have HF:Hid (A2 n T=false):=by show _=_;unfold A2;rw [hq1];rfl
  go_enter Tryz.func27,Tryz.ntmps27
  go_wp2;refine VH (S:=λx=>υ (w.alloc (γ #[σ a n c] 28)).heap.size (w.alloc (γ #[σ a n c] 28)) x) (by kernel_rfl) (Ar _) (λjH=>?_);refine tk 0 jH ?_;refine tk 1 jH ?_ (hy:=λx jS=>by have k0:=AB jS c0;go_simp<;>rfl)
  try simp only [zS]
  refine rd 2 (λK hK=>?_);go_simp;refine(CZ _ (hT.later (AA hb0 jH))).mono ?_;rintro e w1 ⟨b,rfl,hKw,hb1⟩;refine hK.out _ _ (AA jH hb1) (λjH=>?_);clear hK K;try simp only [zS]
  refine tk 3 jH ?_
  try simp only [zS]
  refine rd 4 (λK hK=>?_);go_simp;refine(L1 b _ _ _ T _ hKw (h.later (AA hb0 jH)) hn (by omega)).mono ?_;rw [hq1];rintro e w2 ⟨rfl,hb2⟩;refine hK.out _ _ (AA jH hb2) (λjH=>?_);clear hK K;try simp only [zS]
  refine tk 5 jH ?_;refine A7 6 jH ?_;refine A7 7 jH ?_;refine A7 8 jH ?_;refine tk 9 jH ?_;refine tk 10 jH ?_
  try simp only [zS]
  refine VP (by kernel_rfl) ?_ _;go_wp2;go_ret
  exact⟨AN HF.out.symm,AA hb0 jH⟩
 ·
  have HF:Hid (A2 n T=allN n (Ki T)):=by show _=_;unfold A2;rw [hq1];rfl
  go_enter Tryz.func27,Tryz.ntmps27
  go_wp2;refine VH (S:=λx=>υ (w.alloc (γ #[σ a n c] 28)).heap.size (w.alloc (γ #[σ a n c] 28)) x) (by kernel_rfl) (Ar _) (λjH=>?_);refine tk 0 jH ?_;refine tk 1 jH ?_ (hy:=λx jS=>by have k0:=AB jS c0;go_simp<;>rfl)
  try simp only [zS]
  refine rd 2 (λK hK=>?_);go_simp;refine(CZ _ (hT.later (AA hb0 jH))).mono ?_;rintro e w1 ⟨b,rfl,hKw,hb1⟩;refine hK.out _ _ (AA jH hb1) (λjH=>?_);clear hK K;try simp only [zS]
  refine tk 3 jH ?_
  try simp only [zS]
  refine rd 4 (λK hK=>?_);go_simp;refine(L1 b _ _ _ T _ hKw (h.later (AA hb0 jH)) hn (by omega)).mono ?_;rw [hq1];rintro e w2 ⟨rfl,hb2⟩;refine hK.out _ _ (AA jH hb2) (λjH=>?_);clear hK K;try simp only [zS]
  refine tk 5 jH ?_;refine tk 6 jH ?_;refine tk 7 jH ?_ (hy:=λx jS=>by have k0:=AB jS c0;go_simp<;>rfl)
  try simp only [zS]
  refine rd 8 (λK hK=>?_);go_simp;refine(Rg _ _ _ T _ (h.later (AA hb0 jH)) hn).mono ?_;rintro e w3 ⟨rfl,hb3⟩;refine hK.out _ _ (AA jH hb3) (λjH=>?_);clear hK K;try simp only [zS]
  refine tk 9 jH ?_;refine tk 10 jH ?_
  try simp only [zS]
  refine VP (by kernel_rfl) ?_ _;go_wp2;go_ret
  exact⟨AN HF.out.symm,AA hb0 jH⟩
set_option maxHeartbeats 8000000
theorem Ll{n k:Nat}{T:Nat->Td}(hk:k<n)(h:Br (T k)=false∨Ki T k=false):A2 n T=false:=by
 unfold A2;rcases h with h | h
 · rw [MK hk h];rfl
 · rw [Am hk h];simp
theorem Uq(g n c:Nat)(T:Nat->Td)(w:ο)(h:TC w g n T)(hn:n<=1048576) :
 VK μ 9 #[χ #[σ (ς ⟨g,0,ν⟩) n c]] w λe w'=>e=ρ (β (A2 n T))/\υ w.heap.size w w':=by
 have hb0:=AD w (γ #[σ (ς ⟨g,0,ν⟩) n c] 28);have hX0:=η w (γ #[σ (ς ⟨g,0,ν⟩) n c] 28);have c0:(w.alloc (γ #[σ (ς ⟨g,0,ν⟩) n c] 28)).cell? ⟨w.heap.size,0,ν⟩=ς (σ (ς ⟨g,0,ν⟩) n c):=(ε _ _ 0 _ _ _ hX0).trans rfl;clear hX0;by_cases h1:100<n
 ·
  have h2:(100:Int)<n:=by omega
  have HF:Hid (A2 n T=false):=by show _=_;unfold A2;rw [Kb h1];rfl
  go_enter Tryz.func9,Tryz.ntmps9
  go_wp2;go_ret
  exact⟨AN HF.out.symm,hb0⟩
 have h2:¬(100:Int)<n:=by omega
 go_enter Tryz.func9,Tryz.ntmps9
 go_wp2;go_loopw [3,4,12] (λ_ _ i wr=>∃ k:Nat,k<=n/\i=ι κ k/\(∀ j,j<k->Br (T j)=true/\Ki T j=true)/\υ (w.alloc (γ #[σ (ς ⟨g,0,ν⟩) n c] 28)).heap.size (w.alloc (γ #[σ (ς ⟨g,0,ν⟩) n c] 28)) wr) (λ_ _ i _=>n - (VQ i).toNat)
 case atStart=>exact⟨0,by omega,rfl,λj hj=>by omega,VT _ _⟩
 case round=>
  obtain⟨k,hk,rfl,hall,hb⟩:=hrel;have B2:=AA hb0 hb;by_cases hlt:k<n
  ·
   obtain⟨g1,cc,ar,cr,e0,e1,e2,hcc,hC,hO,hs⟩:=h.later B2 k hlt;have hR2:=η wr (γ #[τ (T k).s,σ (ς ⟨g1,0,ν⟩) (T k).n cc,σ ar (T k).r cr] 67);have y0:(wr.alloc (γ #[τ (T k).s,σ (ς ⟨g1,0,ν⟩) (T k).n cc,σ ar (T k).r cr] 67)).cell? ⟨wr.heap.size,0,ν⟩=ς (τ (T k).s):=(ε _ _ 0 _ _ _ hR2).trans rfl;have y1:(wr.alloc (γ #[τ (T k).s,σ (ς ⟨g1,0,ν⟩) (T k).n cc,σ ar (T k).r cr] 67)).cell? ⟨wr.heap.size,1,ν⟩=ς (σ (ς ⟨g1,0,ν⟩) (T k).n cc):=(ε _ _ 1 _ _ _ hR2).trans rfl;have y2:(wr.alloc (γ #[τ (T k).s,σ (ς ⟨g1,0,ν⟩) (T k).n cc,σ ar (T k).r cr] 67)).cell? ⟨wr.heap.size,2,ν⟩=ς (σ ar (T k).r cr):=(ε _ _ 2 _ _ _ hR2).trans rfl;clear hR2;have B3:=AD wr (γ #[τ (T k).s,σ (ς ⟨g1,0,ν⟩) (T k).n cc,σ ar (T k).r cr] 67);have x0:=AB B3 (AB hb c0);have i1:(0:Int)<=(k:Int):=by omega
   have i2:(k:Int)<(n:Int):=by omega
   rcases hv:Br (T k)
   ·
    go_wp2;refine VH (S:=λx=>υ (wr.alloc (γ #[τ (T k).s,σ (ς ⟨g1,0,ν⟩) (T k).n cc,σ ar (T k).r cr] 67)).heap.size (wr.alloc (γ #[τ (T k).s,σ (ς ⟨g1,0,ν⟩) (T k).n cc,σ ar (T k).r cr] 67)) x) (by kernel_rfl) (Ar _) (λjH=>?_);refine tk 0 jH ?_ (hy:=λx jS=>by have k0:=AB jS y0;have k1:=AB jS y1;have k2:=AB jS y2;have k3:=AB jS x0;go_simp<;>rfl)
    try simp only [zS]
    refine rd 1 (λK hK=>?_);go_simp;refine(PO _ _ _ _ _ _ _ ar cr cc hcc _ (hC.later (AA B3 jH)) (hO.later (AA B3 jH)) hs).mono ?_;rw [show Bk (T k).s (T k).n (T k).C (T k).r (T k).m (T k).R=_ from hv];rintro e w3 ⟨rfl,hb3⟩
    refine hK.out _ _ (AA jH hb3) (λjH=>?_);clear hK K;try simp only [zS]
    refine tk 2 jH ?_;refine tk 3 jH ?_;try simp only [zS];refine A7 4 jH ?_;refine A7 5 jH ?_;try simp only [zS];refine A7 6 jH ?_;refine A7 7 jH ?_;try simp only [zS];refine A7 8 jH ?_;refine A7 9 jH ?_;try simp only [zS];refine A7 10 jH ?_;refine A7 11 jH ?_;try simp only [zS];refine A7 12 jH ?_;refine A7 13 jH ?_;try simp only [zS];refine A7 14 jH ?_;refine A7 15 jH ?_;try simp only [zS];refine A7 16 jH ?_;refine A7 17 jH ?_;try simp only [zS];refine tk 18 jH ?_
    try simp only [zS]
    refine VP (by kernel_rfl) ?_ _;go_wp2;go_ret
    exact⟨AN (Ll hlt (VV hv)).symm,AA B2 (AA B3 jH)⟩
   by_cases hk0:k=0
   ·
    subst hk0;go_wp2;refine VH (S:=λx=>υ (wr.alloc (γ #[τ (T 0).s,σ (ς ⟨g1,0,ν⟩) (T 0).n cc,σ ar (T 0).r cr] 67)).heap.size (wr.alloc (γ #[τ (T 0).s,σ (ς ⟨g1,0,ν⟩) (T 0).n cc,σ ar (T 0).r cr] 67)) x) (by kernel_rfl) (Ar _) (λjH=>?_);refine tk 0 jH ?_ (hy:=λx jS=>by have k0:=AB jS y0;have k1:=AB jS y1;have k2:=AB jS y2;have k3:=AB jS x0;go_simp<;>rfl)
    try simp only [zS]
    refine rd 1 (λK hK=>?_);go_simp;refine(PO _ _ _ _ _ _ _ ar cr cc hcc _ (hC.later (AA B3 jH)) (hO.later (AA B3 jH)) hs).mono ?_;rw [show Bk (T 0).s (T 0).n (T 0).C (T 0).r (T 0).m (T 0).R=_ from hv];rintro e w3 ⟨rfl,hb3⟩
    refine hK.out _ _ (AA jH hb3) (λjH=>?_);clear hK K;try simp only [zS]
    refine tk 2 jH ?_;try simp only [zS];refine tk 3 jH ?_;refine tk 4 jH ?_;try simp only [zS];refine tk 5 jH ?_;try simp only [zS];refine tk 6 jH ?_;refine A7 7 jH ?_;try simp only [zS];refine A7 8 jH ?_;refine A7 9 jH ?_;try simp only [zS];refine A7 10 jH ?_;refine A7 11 jH ?_;try simp only [zS];refine A7 12 jH ?_;refine A7 13 jH ?_;try simp only [zS];refine A7 14 jH ?_;refine A7 15 jH ?_;try simp only [zS];refine A7 16 jH ?_;refine tk 17 jH ?_;try simp only [zS];refine tk 18 jH ?_
    try simp only [zS]
    refine VP (by kernel_rfl) ?_ _;go_wp2;go_roundw
    case rel=>exact⟨0+1,by omega,by go_num,λj hj=>by
     obtain rfl:j=0:=by omega
     exact⟨hv,rfl⟩,AA hb (AA B3 jH)⟩
    case measure=>simp [VQ];omega
   obtain⟨p,rfl⟩:∃ p,k=p+1:=⟨k - 1,by omega⟩;obtain⟨-,-,-,_,q0,-,-,-,-,-⟩:=h.later B2 p (by omega);have p0:=AB B3 q0;have i0:(0:Int)<=(p:Int):=by omega
   have i4:(p:Int)<(n:Int):=by omega
   have i3:IntKind.i64.wrap (p:Int)=(p:Int):=by rw [IntKind.wrap_i64];omega
   have i5:(0:Int)<(p:Int)+1:=by omega
   rcases h7:Va (T p).s.toList (T (p+1)).s.toList
   ·
    go_wp2;refine VH (S:=λx=>υ (wr.alloc (γ #[τ (T (p+1)).s,σ (ς ⟨g1,0,ν⟩) (T (p+1)).n cc,σ ar (T (p+1)).r cr] 67)).heap.size (wr.alloc (γ #[τ (T (p+1)).s,σ (ς ⟨g1,0,ν⟩) (T (p+1)).n cc,σ ar (T (p+1)).r cr] 67)) x) (by kernel_rfl) (Ar _) (λjH=>?_);refine tk 0 jH ?_ (hy:=λx jS=>by have k0:=AB jS y0;have k1:=AB jS y1;have k2:=AB jS y2;have k3:=AB jS x0;have k4:=AB jS p0;go_simp<;>rfl)
    try simp only [zS]
    refine rd 1 (λK hK=>?_);go_simp;refine(PO _ _ _ _ _ _ _ ar cr cc hcc _ (hC.later (AA B3 jH)) (hO.later (AA B3 jH)) hs).mono ?_;rw [show Bk (T (p+1)).s (T (p+1)).n (T (p+1)).C (T (p+1)).r (T (p+1)).m (T (p+1)).R=_ from hv];rintro e w3 ⟨rfl,hb3⟩
    refine hK.out _ _ (AA jH hb3) (λjH=>?_);clear hK K;try simp only [zS]
    refine tk 2 jH ?_;try simp only [zS];refine tk 3 jH ?_;try simp only [zS];refine tk 4 jH ?_;refine tk 5 jH ?_;try simp only [zS];refine tk 6 jH ?_;try simp only [zS];refine tk 7 jH ?_;try simp only [zS];refine tk 8 jH ?_ (hy:=λx jS=>by have k0:=AB jS y0;have k1:=AB jS y1;have k2:=AB jS y2;have k3:=AB jS x0;have k4:=AB jS p0;go_simp<;>rfl)
    try simp only [zS]
    refine tk 9 jH ?_;refine tk 10 (v:=ι κ (p:Int)) jH ?_;try simp only [zS]
    refine tk 11 (v:=ψ (ς ⟨g,p * 3,ν⟩)) jH ?_
    refine tk 12 (v:=ψ (ς ⟨g,p * 3,ν⟩)) jH ?_;try simp only [zS]
    refine tk 13 jH ?_ (hy:=λx jS=>by have k0:=AB jS y0;have k1:=AB jS y1;have k2:=AB jS y2;have k3:=AB jS x0;have k4:=AB jS p0;go_simp<;>rfl)
    try simp only [zS]
    refine tk 14 jH ?_;try simp only [zS];refine tk 15 jH ?_ (hy:=λx jS=>by have k0:=AB jS y0;have k1:=AB jS y1;have k2:=AB jS y2;have k3:=AB jS x0;have k4:=AB jS p0;go_simp<;>rfl)
    try simp only [zS]
    refine tk 16 jH ?_;try simp only [zS];refine tk 17 jH ?_;try simp only [zS];refine tk 18 jH ?_
    try simp only [zS]
    refine VP (by kernel_rfl) ?_ _;go_wp2;go_ret
    exact⟨AN (Ll hlt (Vb (by unfold Ki;rw [Nat.add_sub_cancel,h7];simp))).symm,AA B2 (AA B3 jH)⟩
   ·
    go_wp2;refine VH (S:=λx=>υ (wr.alloc (γ #[τ (T (p+1)).s,σ (ς ⟨g1,0,ν⟩) (T (p+1)).n cc,σ ar (T (p+1)).r cr] 67)).heap.size (wr.alloc (γ #[τ (T (p+1)).s,σ (ς ⟨g1,0,ν⟩) (T (p+1)).n cc,σ ar (T (p+1)).r cr] 67)) x) (by kernel_rfl) (Ar _) (λjH=>?_);refine tk 0 jH ?_ (hy:=λx jS=>by have k0:=AB jS y0;have k1:=AB jS y1;have k2:=AB jS y2;have k3:=AB jS x0;have k4:=AB jS p0;go_simp<;>rfl)
    try simp only [zS]
    refine rd 1 (λK hK=>?_);go_simp;refine(PO _ _ _ _ _ _ _ ar cr cc hcc _ (hC.later (AA B3 jH)) (hO.later (AA B3 jH)) hs).mono ?_;rw [show Bk (T (p+1)).s (T (p+1)).n (T (p+1)).C (T (p+1)).r (T (p+1)).m (T (p+1)).R=_ from hv];rintro e w3 ⟨rfl,hb3⟩
    refine hK.out _ _ (AA jH hb3) (λjH=>?_);clear hK K;try simp only [zS]
    refine tk 2 jH ?_;refine tk 3 jH ?_;try simp only [zS];refine tk 4 jH ?_;try simp only [zS];refine tk 5 jH ?_;try simp only [zS];refine tk 6 jH ?_;refine tk 7 jH ?_;try simp only [zS];refine tk 8 jH ?_ (hy:=λx jS=>by have k0:=AB jS y0;have k1:=AB jS y1;have k2:=AB jS y2;have k3:=AB jS x0;have k4:=AB jS p0;go_simp<;>rfl)
    try simp only [zS]
    refine tk 9 jH ?_;try simp only [zS];refine tk 10 (v:=ι κ (p:Int)) jH ?_
    refine tk 11 (v:=ψ (ς ⟨g,p * 3,ν⟩)) jH ?_;try simp only [zS]
    refine tk 12 (v:=ψ (ς ⟨g,p * 3,ν⟩)) jH ?_
    refine tk 13 jH ?_ (hy:=λx jS=>by have k0:=AB jS y0;have k1:=AB jS y1;have k2:=AB jS y2;have k3:=AB jS x0;have k4:=AB jS p0;go_simp<;>rfl)
    try simp only [zS]
    refine tk 14 jH ?_;try simp only [zS];refine tk 15 jH ?_ (hy:=λx jS=>by have k0:=AB jS y0;have k1:=AB jS y1;have k2:=AB jS y2;have k3:=AB jS x0;have k4:=AB jS p0;go_simp<;>rfl)
    try simp only [zS]
    refine tk 16 jH ?_;refine tk 17 jH ?_;try simp only [zS];refine tk 18 jH ?_
    try simp only [zS]
    refine VP (by kernel_rfl) ?_ _;go_wp2;go_roundw
    case rel=>exact⟨p+1+1,by omega,by go_num,λj hj=>by
     by_cases e:j=p+1
     · subst e;exact⟨hv,by unfold Ki;rw [Nat.add_sub_cancel,h7];simp⟩
     · exact hall j (by omega),AA hb (AA B3 jH)⟩
    case measure=>simp [VQ];omega
  ·
   obtain rfl:k=n:=by omega
   go_wp2;go_ret
   exact⟨AN (by unfold A2;rw [Hr (by omega) λj hj=>(hall j hj).1,Ak λj hj=>(hall j hj).2];rfl),B2⟩
theorem Rz(n:Nat):((n:Int) == 0)=decide (n=0):=by rw [Bool.eq_iff_iff];simp
theorem Su(n:Nat):((n:Int) != 0)=!decide (n=0):=by rw [bne,Rz]
theorem NP(D:St)(e:D.k=1):AK D=(AM D.tb && (Bh 0 D.n3 D.col D.n5 D.n6 D.n7 && (Bn D.n2 1 20 && allN D.n2 (λj=>BI (D.C j).s (D.C j).t)))):=by
 simp only [AK,GD,BR,e,Bh,Rz,Su]
 by_cases h1:D.n3=0 <;> by_cases h2:D.col.size=0 <;> by_cases h3:D.n5=0 <;> by_cases h4:D.n6=0 <;> by_cases h5:D.n7=0 <;> simp [h1,h2,h3,h4,h5]
theorem PL(D:St)(e:D.k=2):AK D=(AM D.tb && (Bh D.n2 0 D.col D.n5 D.n6 D.n7 && (Bn D.n3 1 20 && allN D.n3 (λj=>Aa (D.V j).o (D.V j).m (D.V j).s)))):=by
 simp only [AK,GD,BR,e,Bh,Rz,Su]
 by_cases h1:D.n2=0 <;> by_cases h2:D.col.size=0 <;> by_cases h3:D.n5=0 <;> by_cases h4:D.n6=0 <;> by_cases h5:D.n7=0 <;> simp [h1,h2,h3,h4,h5]
theorem PK(D:St)(e:D.k=3):AK D=(AM D.tb && (Bh D.n2 D.n3 ⟨#[]⟩ 0 0 D.n7 && (AM D.col && AZ D.E D.n5 && AI D.W D.n6))):=by
 have z:(⟨#[]⟩:ByteArray).size=0:=rfl;simp only [AK,GD,BR,e,Bh,Rz,Su,z]
 by_cases h1:D.n2=0 <;> by_cases h2:D.n3=0 <;> by_cases h3:D.n7=0 <;> simp [h1,h2,h3]
theorem PJ(D:St)(e:D.k=4):AK D=(AM D.tb && (Bh D.n2 D.n3 D.col D.n5 0 D.n7 && AI D.W D.n6)):=by
 simp only [AK,GD,BR,e,Bh,Rz,Su]
 by_cases h1:D.n2=0 <;> by_cases h2:D.n3=0 <;> by_cases h3:D.n7=0 <;> by_cases h4:D.col.size=0 <;> by_cases h5:D.n5=0 <;> simp [h1,h2,h3,h4,h5]
theorem PI(D:St)(e:D.k=5):AK D=(AM D.tb && (Bh D.n2 D.n3 D.col D.n5 0 0 && ((Bn D.n7 1 20 && allN D.n7 (λj=>AZ (D.O j) (D.m7 j))) && AI D.W D.n6))):=by
 simp only [AK,GD,BR,e,Bh,Rz,Su]
 by_cases h1:D.n2=0 <;> by_cases h2:D.n3=0 <;> by_cases h4:D.col.size=0 <;> by_cases h5:D.n5=0 <;> simp [h1,h2,h4,h5]
theorem Ql(D:St)(e1:¬D.k=1)(e2:¬D.k=2)(e3:¬D.k=3)(e4:¬D.k=4)(e5:¬D.k=5):AK D=false:=by
 simp [AK,BR,e1,e2,e3,e4,e5]
theorem TI(tb:ByteArray)(n2:Nat)(C:Nat->Clm)(n3:Nat)(V:Nat->Itm)(col:ByteArray)(n5:Nat)(E:Nat->Itm)(n6:Nat)(W:Nat->Itm)(n7:Nat)(m7:Nat->Nat)(O:Nat->Nat->Itm)
 (a2:Option Addr) (c2:Nat) (a3:Option Addr) (c3:Nat) (a5:Option Addr) (c5:Nat) (a6:Option Addr) (c6:Nat) (a7:Option Addr) (c7:Nat) (D:St) (hD:(⟨1,tb,n2,C,n3,V,col,n5,E,n6,W,n7,m7,O⟩:St)=D)
 (w:ο) (h:SM w ⟨1,tb,n2,C,n3,V,col,n5,E,n6,W,n7,m7,O⟩ ⟨a2,c2,a3,c3,a5,c5,a6,c6,a7,c7⟩) (hT:SpT w) :
 VK μ 28 #[χ #[ι κ 1,τ tb,σ a2 n2 c2,σ a3 n3 c3,τ col,σ a5 n5 c5,σ a6 n6 c6,σ a7 n7 c7]] w λe w'=>e=ρ (β (AK D))/\υ w.heap.size w w':=by
 have hb0:=AD w (γ #[ι κ 1,τ tb,σ a2 n2 c2,σ a3 n3 c3,τ col,σ a5 n5 c5,σ a6 n6 c6,σ a7 n7 c7] 34);have H0:=h.later hb0;have q0:B8 (w.alloc (γ #[ι κ 1,τ tb,σ a2 n2 c2,σ a3 n3 c3,τ col,σ a5 n5 c5,σ a6 n6 c6,σ a7 n7 c7] 34)) w.heap.size ⟨1,tb,n2,C,n3,V,col,n5,E,n6,W,n7,m7,O⟩ ⟨a2,c2,a3,c3,a5,c5,a6,c6,a7,c7⟩:=B8.new w ⟨1,tb,n2,C,n3,V,col,n5,E,n6,W,n7,m7,O⟩ ⟨a2,c2,a3,c3,a5,c5,a6,c6,a7,c7⟩ 34;obtain⟨htb,hcol,-,-,-,-,-,l2,l3,l5,l6,l7⟩:=id h;dsimp only at htb hcol l2 l3 l5 l6 l7
 have HR:Hid (AK D=(AM tb && (Bh 0 n3 col n5 n6 n7 && (Bn n2 1 20 && allN n2 (λj=>BI (C j).s (C j).t))))):=(hD ▸ NP ⟨1,tb,n2,C,n3,V,col,n5,E,n6,W,n7,m7,O⟩ rfl);clear hD;go_enter Tryz.func28,Tryz.ntmps28
 go_upto_region 4 with (first | (go_at_call 58;refine(CZ _ (hT.later hb0)).mono ?_;rintro e w1 ⟨kb,rfl,hK1,hb1⟩;have H1:=H0.later hb1;have Q1:=q0.later hb1;have q1':=Q1.c1;dsimp only at q1';replace hb1:=AA hb0 hb1) | (go_at_call 62;refine(Df kb tb _ hK1 htb).mono ?_;rintro e w2 ⟨rfl,hb2⟩;have hK2:=hK1.later hb2;have H2:=H1.later hb2;have Q2:=Q1.later hb2;obtain⟨q0,q1,q2,q3,q4,q5,q6,q7⟩:=id Q2;dsimp only at q0 q1 q2 q3 q4 q5 q6 q7;replace hb2:=AA hb1 hb2;rcases hnm:AM tb))
 ·
  go_ret
  exact⟨AN (by rw [HR.out];simp [hnm]),hb2⟩
 go_wp2_with (first | (go_at_call 63;refine(KE _ _ _ _ _ _ _ _ _ _ _ _ _ _ _ _ _ _ _).mono ?_;rintro e w3 ⟨rfl,hb3⟩;have hK3:=hK2.later (C1 hb3);have H3:=H2.later (C1 hb3);have Q3:=Q2.later (C1 hb3);obtain⟨r0,r1,r2,r3,r4,r5,r6,r7⟩:=id Q3;dsimp only at r0 r1 r2 r3 r4 r5 r6 r7;replace hb3:=AA hb2 (C1 hb3);rcases hbr:Bh 0 n3 col n5 n6 n7) | (go_at_call 64;refine(Fq kb a2 n2 c2 C _ hK3 H3.co l2).mono ?_;rintro e w4 ⟨rfl,hb4⟩;replace hb4:=AA hb3 hb4))
 ·
  go_ret
  exact⟨AN (by rw [HR.out];simp [hbr]),hb3⟩
 ·
  go_ret
  exact⟨AN (by rw [HR.out];simp [hbr,hnm]),hb4⟩
theorem TH(tb:ByteArray)(n2:Nat)(C:Nat->Clm)(n3:Nat)(V:Nat->Itm)(col:ByteArray)(n5:Nat)(E:Nat->Itm)(n6:Nat)(W:Nat->Itm)(n7:Nat)(m7:Nat->Nat)(O:Nat->Nat->Itm)
 (a2:Option Addr) (c2:Nat) (a3:Option Addr) (c3:Nat) (a5:Option Addr) (c5:Nat) (a6:Option Addr) (c6:Nat) (a7:Option Addr) (c7:Nat) (D:St) (hD:(⟨2,tb,n2,C,n3,V,col,n5,E,n6,W,n7,m7,O⟩:St)=D)
 (w:ο) (h:SM w ⟨2,tb,n2,C,n3,V,col,n5,E,n6,W,n7,m7,O⟩ ⟨a2,c2,a3,c3,a5,c5,a6,c6,a7,c7⟩) (hT:SpT w) :
 VK μ 28 #[χ #[ι κ 2,τ tb,σ a2 n2 c2,σ a3 n3 c3,τ col,σ a5 n5 c5,σ a6 n6 c6,σ a7 n7 c7]] w λe w'=>e=ρ (β (AK D))/\υ w.heap.size w w':=by
 have hb0:=AD w (γ #[ι κ 2,τ tb,σ a2 n2 c2,σ a3 n3 c3,τ col,σ a5 n5 c5,σ a6 n6 c6,σ a7 n7 c7] 34);have H0:=h.later hb0;have q0:B8 (w.alloc (γ #[ι κ 2,τ tb,σ a2 n2 c2,σ a3 n3 c3,τ col,σ a5 n5 c5,σ a6 n6 c6,σ a7 n7 c7] 34)) w.heap.size ⟨2,tb,n2,C,n3,V,col,n5,E,n6,W,n7,m7,O⟩ ⟨a2,c2,a3,c3,a5,c5,a6,c6,a7,c7⟩:=B8.new w ⟨2,tb,n2,C,n3,V,col,n5,E,n6,W,n7,m7,O⟩ ⟨a2,c2,a3,c3,a5,c5,a6,c6,a7,c7⟩ 34;obtain⟨htb,hcol,-,-,-,-,-,l2,l3,l5,l6,l7⟩:=id h;dsimp only at htb hcol l2 l3 l5 l6 l7
 have HR:Hid (AK D=(AM tb && (Bh n2 0 col n5 n6 n7 && (Bn n3 1 20 && allN n3 (λj=>Aa (V j).o (V j).m (V j).s))))):=(hD ▸ PL ⟨2,tb,n2,C,n3,V,col,n5,E,n6,W,n7,m7,O⟩ rfl);clear hD;go_enter Tryz.func28,Tryz.ntmps28
 go_upto_region 4 with (first | (go_at_call 58;refine(CZ _ (hT.later hb0)).mono ?_;rintro e w1 ⟨kb,rfl,hK1,hb1⟩;have H1:=H0.later hb1;have Q1:=q0.later hb1;have q1':=Q1.c1;dsimp only at q1';replace hb1:=AA hb0 hb1) | (go_at_call 62;refine(Df kb tb _ hK1 htb).mono ?_;rintro e w2 ⟨rfl,hb2⟩;have hK2:=hK1.later hb2;have H2:=H1.later hb2;have Q2:=Q1.later hb2;obtain⟨q0,q1,q2,q3,q4,q5,q6,q7⟩:=id Q2;dsimp only at q0 q1 q2 q3 q4 q5 q6 q7;replace hb2:=AA hb1 hb2;rcases hnm:AM tb))
 ·
  go_ret
  exact⟨AN (by rw [HR.out];simp [hnm]),hb2⟩
 go_wp2_with (first | (go_at_call 63;refine(KE _ _ _ _ _ _ _ _ _ _ _ _ _ _ _ _ _ _ _).mono ?_;rintro e w3 ⟨rfl,hb3⟩;have hK3:=hK2.later (C1 hb3);have H3:=H2.later (C1 hb3);have Q3:=Q2.later (C1 hb3);obtain⟨r0,r1,r2,r3,r4,r5,r6,r7⟩:=id Q3;dsimp only at r0 r1 r2 r3 r4 r5 r6 r7;replace hb3:=AA hb2 (C1 hb3);rcases hbr:Bh n2 0 col n5 n6 n7) | (go_at_call 66;refine(Px a3 n3 c3 V _ H3.va l3).mono ?_;rintro e w4 ⟨rfl,hb4⟩;replace hb4:=AA hb3 hb4))
 ·
  go_ret
  exact⟨AN (by rw [HR.out];simp [hbr]),hb3⟩
 ·
  go_ret
  exact⟨AN (by rw [HR.out];simp [hbr,hnm]),hb4⟩
theorem TG(tb:ByteArray)(n2:Nat)(C:Nat->Clm)(n3:Nat)(V:Nat->Itm)(col:ByteArray)(n5:Nat)(E:Nat->Itm)(n6:Nat)(W:Nat->Itm)(n7:Nat)(m7:Nat->Nat)(O:Nat->Nat->Itm)
 (a2:Option Addr) (c2:Nat) (a3:Option Addr) (c3:Nat) (a5:Option Addr) (c5:Nat) (a6:Option Addr) (c6:Nat) (a7:Option Addr) (c7:Nat) (D:St) (hD:(⟨3,tb,n2,C,n3,V,col,n5,E,n6,W,n7,m7,O⟩:St)=D)
 (w:ο) (h:SM w ⟨3,tb,n2,C,n3,V,col,n5,E,n6,W,n7,m7,O⟩ ⟨a2,c2,a3,c3,a5,c5,a6,c6,a7,c7⟩) (hT:SpT w) :
 VK μ 28 #[χ #[ι κ 3,τ tb,σ a2 n2 c2,σ a3 n3 c3,τ col,σ a5 n5 c5,σ a6 n6 c6,σ a7 n7 c7]] w λe w'=>e=ρ (β (AK D))/\υ w.heap.size w w':=by
 have hb0:=AD w (γ #[ι κ 3,τ tb,σ a2 n2 c2,σ a3 n3 c3,τ col,σ a5 n5 c5,σ a6 n6 c6,σ a7 n7 c7] 34);have H0:=h.later hb0;have q0:B8 (w.alloc (γ #[ι κ 3,τ tb,σ a2 n2 c2,σ a3 n3 c3,τ col,σ a5 n5 c5,σ a6 n6 c6,σ a7 n7 c7] 34)) w.heap.size ⟨3,tb,n2,C,n3,V,col,n5,E,n6,W,n7,m7,O⟩ ⟨a2,c2,a3,c3,a5,c5,a6,c6,a7,c7⟩:=B8.new w ⟨3,tb,n2,C,n3,V,col,n5,E,n6,W,n7,m7,O⟩ ⟨a2,c2,a3,c3,a5,c5,a6,c6,a7,c7⟩ 34;obtain⟨htb,hcol,-,-,-,-,-,l2,l3,l5,l6,l7⟩:=id h;dsimp only at htb hcol l2 l3 l5 l6 l7
 have HR:Hid (AK D=(AM tb && (Bh n2 n3 ⟨#[]⟩ 0 0 n7 && (AM col && AZ E n5 && AI W n6)))):=(hD ▸ PK ⟨3,tb,n2,C,n3,V,col,n5,E,n6,W,n7,m7,O⟩ rfl);clear hD;go_enter Tryz.func28,Tryz.ntmps28
 go_upto_region 4 with (first | (go_at_call 58;refine(CZ _ (hT.later hb0)).mono ?_;rintro e w1 ⟨kb,rfl,hK1,hb1⟩;have H1:=H0.later hb1;have Q1:=q0.later hb1;have q1':=Q1.c1;dsimp only at q1';replace hb1:=AA hb0 hb1) | (go_at_call 62;refine(Df kb tb _ hK1 htb).mono ?_;rintro e w2 ⟨rfl,hb2⟩;have hK2:=hK1.later hb2;have H2:=H1.later hb2;have Q2:=Q1.later hb2;obtain⟨q0,q1,q2,q3,q4,q5,q6,q7⟩:=id Q2;dsimp only at q0 q1 q2 q3 q4 q5 q6 q7;replace hb2:=AA hb1 hb2;rcases hnm:AM tb))
 ·
  go_ret
  exact⟨AN (by rw [HR.out];simp [hnm]),hb2⟩
 go_wp2_with (first | (go_at_call 63;refine(KE _ _ _ _ _ _ _ _ _ _ _ _ _ _ _ _ _ _ _).mono ?_;rintro e w3 ⟨rfl,hb3⟩;have hK3:=hK2.later (C1 hb3);have H3:=H2.later (C1 hb3);have Q3:=Q2.later (C1 hb3);obtain⟨r0,r1,r2,r3,r4,r5,r6,r7⟩:=id Q3;dsimp only at r0 r1 r2 r3 r4 r5 r6 r7;replace hb3:=AA hb2 (C1 hb3);rcases hbr:Bh n2 n3 ⟨#[]⟩ 0 0 n7) | (go_at_call 62;refine(Df kb col _ hK3 hcol).mono ?_;rintro e w4 ⟨rfl,hb4⟩;have hK4:=hK3.later hb4;have H4:=H3.later hb4;have s5:=AB hb4 r5;have s6:=AB hb4 r6;replace hb4:=AA hb3 hb4;rcases hcn:AM col) | (go_at_call 68;refine(OI kb a5 n5 c5 E _ hK4 H4.ex l5).mono ?_;rintro e w5 ⟨rfl,hb5⟩;have hK5:=hK4.later hb5;have H5:=H4.later hb5;have u6:=AB hb5 s6;replace hb5:=AA hb4 hb5;rcases hx:AZ E n5) | (go_at_call 69;refine(AaD kb a6 n6 c6 W _ hK5 H5.wh l6).mono ?_;rintro e w6 ⟨rfl,hb6⟩;replace hb6:=AA hb5 hb6))
 ·
  go_ret
  exact⟨AN (by rw [HR.out];simp [hbr]),hb3⟩
 ·
  go_ret
  exact⟨AN (by rw [HR.out];simp [hcn]),hb4⟩
 ·
  go_ret
  exact⟨AN (by rw [HR.out];simp [hx]),hb5⟩
 ·
  go_ret
  exact⟨AN (by rw [HR.out];simp [hbr,hnm,hcn,hx]),hb6⟩
theorem TF(tb:ByteArray)(n2:Nat)(C:Nat->Clm)(n3:Nat)(V:Nat->Itm)(col:ByteArray)(n5:Nat)(E:Nat->Itm)(n6:Nat)(W:Nat->Itm)(n7:Nat)(m7:Nat->Nat)(O:Nat->Nat->Itm)
 (a2:Option Addr) (c2:Nat) (a3:Option Addr) (c3:Nat) (a5:Option Addr) (c5:Nat) (a6:Option Addr) (c6:Nat) (a7:Option Addr) (c7:Nat) (D:St) (hD:(⟨4,tb,n2,C,n3,V,col,n5,E,n6,W,n7,m7,O⟩:St)=D)
 (w:ο) (h:SM w ⟨4,tb,n2,C,n3,V,col,n5,E,n6,W,n7,m7,O⟩ ⟨a2,c2,a3,c3,a5,c5,a6,c6,a7,c7⟩) (hT:SpT w) :
 VK μ 28 #[χ #[ι κ 4,τ tb,σ a2 n2 c2,σ a3 n3 c3,τ col,σ a5 n5 c5,σ a6 n6 c6,σ a7 n7 c7]] w λe w'=>e=ρ (β (AK D))/\υ w.heap.size w w':=by
 have hb0:=AD w (γ #[ι κ 4,τ tb,σ a2 n2 c2,σ a3 n3 c3,τ col,σ a5 n5 c5,σ a6 n6 c6,σ a7 n7 c7] 34);have H0:=h.later hb0;have q0:B8 (w.alloc (γ #[ι κ 4,τ tb,σ a2 n2 c2,σ a3 n3 c3,τ col,σ a5 n5 c5,σ a6 n6 c6,σ a7 n7 c7] 34)) w.heap.size ⟨4,tb,n2,C,n3,V,col,n5,E,n6,W,n7,m7,O⟩ ⟨a2,c2,a3,c3,a5,c5,a6,c6,a7,c7⟩:=B8.new w ⟨4,tb,n2,C,n3,V,col,n5,E,n6,W,n7,m7,O⟩ ⟨a2,c2,a3,c3,a5,c5,a6,c6,a7,c7⟩ 34;obtain⟨htb,hcol,-,-,-,-,-,l2,l3,l5,l6,l7⟩:=id h;dsimp only at htb hcol l2 l3 l5 l6 l7
 have HR:Hid (AK D=(AM tb && (Bh n2 n3 col n5 0 n7 && AI W n6))):=(hD ▸ PJ ⟨4,tb,n2,C,n3,V,col,n5,E,n6,W,n7,m7,O⟩ rfl);clear hD;go_enter Tryz.func28,Tryz.ntmps28
 go_upto_region 4 with (first | (go_at_call 58;refine(CZ _ (hT.later hb0)).mono ?_;rintro e w1 ⟨kb,rfl,hK1,hb1⟩;have H1:=H0.later hb1;have Q1:=q0.later hb1;have q1':=Q1.c1;dsimp only at q1';replace hb1:=AA hb0 hb1) | (go_at_call 62;refine(Df kb tb _ hK1 htb).mono ?_;rintro e w2 ⟨rfl,hb2⟩;have hK2:=hK1.later hb2;have H2:=H1.later hb2;have Q2:=Q1.later hb2;obtain⟨q0,q1,q2,q3,q4,q5,q6,q7⟩:=id Q2;dsimp only at q0 q1 q2 q3 q4 q5 q6 q7;replace hb2:=AA hb1 hb2;rcases hnm:AM tb))
 ·
  go_ret
  exact⟨AN (by rw [HR.out];simp [hnm]),hb2⟩
 go_wp2_with (first | (go_at_call 63;refine(KE _ _ _ _ _ _ _ _ _ _ _ _ _ _ _ _ _ _ _).mono ?_;rintro e w3 ⟨rfl,hb3⟩;have hK3:=hK2.later (C1 hb3);have H3:=H2.later (C1 hb3);have Q3:=Q2.later (C1 hb3);obtain⟨r0,r1,r2,r3,r4,r5,r6,r7⟩:=id Q3;dsimp only at r0 r1 r2 r3 r4 r5 r6 r7;replace hb3:=AA hb2 (C1 hb3);rcases hbr:Bh n2 n3 col n5 0 n7) | (go_at_call 69;refine(AaD kb a6 n6 c6 W _ hK3 H3.wh l6).mono ?_;rintro e w6 ⟨rfl,hb6⟩;replace hb6:=AA hb3 hb6))
 ·
  go_ret
  exact⟨AN (by rw [HR.out];simp [hbr]),hb3⟩
 ·
  go_ret
  exact⟨AN (by rw [HR.out];simp [hbr,hnm]),hb6⟩
theorem QY(tb:ByteArray)(n2:Nat)(C:Nat->Clm)(n3:Nat)(V:Nat->Itm)(col:ByteArray)(n5:Nat)(E:Nat->Itm)(n6:Nat)(W:Nat->Itm)(n7:Nat)(m7:Nat->Nat)(O:Nat->Nat->Itm)
 (a2:Option Addr) (c2:Nat) (a3:Option Addr) (c3:Nat) (a5:Option Addr) (c5:Nat) (a6:Option Addr) (c6:Nat) (a7:Option Addr) (c7:Nat) (D:St) (hD:(⟨5,tb,n2,C,n3,V,col,n5,E,n6,W,n7,m7,O⟩:St)=D)
 (w:ο) (h:SM w ⟨5,tb,n2,C,n3,V,col,n5,E,n6,W,n7,m7,O⟩ ⟨a2,c2,a3,c3,a5,c5,a6,c6,a7,c7⟩) (hT:SpT w) :
 VK μ 28 #[χ #[ι κ 5,τ tb,σ a2 n2 c2,σ a3 n3 c3,τ col,σ a5 n5 c5,σ a6 n6 c6,σ a7 n7 c7]] w λe w'=>e=ρ (β (AK D))/\υ w.heap.size w w':=by
 have hb0:=AD w (γ #[ι κ 5,τ tb,σ a2 n2 c2,σ a3 n3 c3,τ col,σ a5 n5 c5,σ a6 n6 c6,σ a7 n7 c7] 34);have H0:=h.later hb0;have q0:B8 (w.alloc (γ #[ι κ 5,τ tb,σ a2 n2 c2,σ a3 n3 c3,τ col,σ a5 n5 c5,σ a6 n6 c6,σ a7 n7 c7] 34)) w.heap.size ⟨5,tb,n2,C,n3,V,col,n5,E,n6,W,n7,m7,O⟩ ⟨a2,c2,a3,c3,a5,c5,a6,c6,a7,c7⟩:=B8.new w ⟨5,tb,n2,C,n3,V,col,n5,E,n6,W,n7,m7,O⟩ ⟨a2,c2,a3,c3,a5,c5,a6,c6,a7,c7⟩ 34;obtain⟨htb,hcol,-,-,-,-,-,l2,l3,l5,l6,l7⟩:=id h;dsimp only at htb hcol l2 l3 l5 l6 l7
 have HR:Hid (AK D=(AM tb && (Bh n2 n3 col n5 0 0 && ((Bn n7 1 20 && allN n7 (λj=>AZ (O j) (m7 j))) && AI W n6)))):=(hD ▸ PI ⟨5,tb,n2,C,n3,V,col,n5,E,n6,W,n7,m7,O⟩ rfl);clear hD;go_enter Tryz.func28,Tryz.ntmps28
 go_upto_region 4 with (first | (go_at_call 58;refine(CZ _ (hT.later hb0)).mono ?_;rintro e w1 ⟨kb,rfl,hK1,hb1⟩;have H1:=H0.later hb1;have Q1:=q0.later hb1;have q1':=Q1.c1;dsimp only at q1';replace hb1:=AA hb0 hb1) | (go_at_call 62;refine(Df kb tb _ hK1 htb).mono ?_;rintro e w2 ⟨rfl,hb2⟩;have hK2:=hK1.later hb2;have H2:=H1.later hb2;have Q2:=Q1.later hb2;obtain⟨q0,q1,q2,q3,q4,q5,q6,q7⟩:=id Q2;dsimp only at q0 q1 q2 q3 q4 q5 q6 q7;replace hb2:=AA hb1 hb2;rcases hnm:AM tb))
 ·
  go_ret
  exact⟨AN (by rw [HR.out];simp [hnm]),hb2⟩
 go_wp2_with (first | (go_at_call 63;refine(KE _ _ _ _ _ _ _ _ _ _ _ _ _ _ _ _ _ _ _).mono ?_;rintro e w3 ⟨rfl,hb3⟩;have hK3:=hK2.later (C1 hb3);have H3:=H2.later (C1 hb3);have Q3:=Q2.later (C1 hb3);obtain⟨r0,r1,r2,r3,r4,r5,r6,r7⟩:=id Q3;dsimp only at r0 r1 r2 r3 r4 r5 r6 r7;replace hb3:=AA hb2 (C1 hb3);rcases hbr:Bh n2 n3 col n5 0 0) | (go_at_call 70;refine(Py kb a7 n7 c7 m7 O _ hK3 H3.ou l7).mono ?_;rintro e w4 ⟨rfl,hb4⟩;have hK4:=hK3.later hb4;have H4:=H3.later hb4;have s6:=AB hb4 r6;replace hb4:=AA hb3 hb4;rcases hx:(Bn n7 1 20 && allN n7 (λj=>AZ (O j) (m7 j)))) | (go_at_call 69;refine(AaD kb a6 n6 c6 W _ hK4 H4.wh l6).mono ?_;rintro e w6 ⟨rfl,hb6⟩;replace hb6:=AA hb4 hb6))
 ·
  go_ret
  exact⟨AN (by rw [HR.out];simp [hbr]),hb3⟩
 ·
  go_ret
  exact⟨AN (by rw [HR.out,hx];simp),hb4⟩
 ·
  go_ret
  exact⟨AN (by rw [HR.out,hx,hbr,hnm];simp),hb6⟩
theorem TJ(k:Int)(e1:¬k=1)(e2:¬k=2)(e3:¬k=3)(e4:¬k=4)(e5:¬k=5)(tb:ByteArray)(n2:Nat)(C:Nat->Clm)(n3:Nat)(V:Nat->Itm)(col:ByteArray)(n5:Nat)(E:Nat->Itm)(n6:Nat)(W:Nat->Itm)(n7:Nat)(m7:Nat->Nat)(O:Nat->Nat->Itm)
 (a2:Option Addr) (c2:Nat) (a3:Option Addr) (c3:Nat) (a5:Option Addr) (c5:Nat) (a6:Option Addr) (c6:Nat) (a7:Option Addr) (c7:Nat) (D:St) (hD:(⟨k,tb,n2,C,n3,V,col,n5,E,n6,W,n7,m7,O⟩:St)=D)
 (w:ο) (h:SM w ⟨k,tb,n2,C,n3,V,col,n5,E,n6,W,n7,m7,O⟩ ⟨a2,c2,a3,c3,a5,c5,a6,c6,a7,c7⟩) (hT:SpT w) :
 VK μ 28 #[χ #[ι κ k,τ tb,σ a2 n2 c2,σ a3 n3 c3,τ col,σ a5 n5 c5,σ a6 n6 c6,σ a7 n7 c7]] w λe w'=>e=ρ (β (AK D))/\υ w.heap.size w w':=by
 have hb0:=AD w (γ #[ι κ k,τ tb,σ a2 n2 c2,σ a3 n3 c3,τ col,σ a5 n5 c5,σ a6 n6 c6,σ a7 n7 c7] 34);have H0:=h.later hb0;have q0:B8 (w.alloc (γ #[ι κ k,τ tb,σ a2 n2 c2,σ a3 n3 c3,τ col,σ a5 n5 c5,σ a6 n6 c6,σ a7 n7 c7] 34)) w.heap.size ⟨k,tb,n2,C,n3,V,col,n5,E,n6,W,n7,m7,O⟩ ⟨a2,c2,a3,c3,a5,c5,a6,c6,a7,c7⟩:=B8.new w ⟨k,tb,n2,C,n3,V,col,n5,E,n6,W,n7,m7,O⟩ ⟨a2,c2,a3,c3,a5,c5,a6,c6,a7,c7⟩ 34;obtain⟨htb,hcol,-,-,-,-,-,l2,l3,l5,l6,l7⟩:=id h;dsimp only at htb hcol l2 l3 l5 l6 l7
 have HR:Hid (AK D=false):=(hD ▸ Ql ⟨k,tb,n2,C,n3,V,col,n5,E,n6,W,n7,m7,O⟩ e1 e2 e3 e4 e5);have e1':(k == 1)=false:=by simp [e1]
 have e2':(k == 2)=false:=by simp [e2]
 have e3':(k == 3)=false:=by simp [e3]
 have e4':(k == 4)=false:=by simp [e4]
 have e5':(k == 5)=false:=by simp [e5]
 clear hD;go_enter Tryz.func28,Tryz.ntmps28
 go_upto_region 4 with (first | (go_at_call 58;refine(CZ _ (hT.later hb0)).mono ?_;rintro e w1 ⟨kb,rfl,hK1,hb1⟩;have H1:=H0.later hb1;have Q1:=q0.later hb1;have q1':=Q1.c1;dsimp only at q1';replace hb1:=AA hb0 hb1) | (go_at_call 62;refine(Df kb tb _ hK1 htb).mono ?_;rintro e w2 ⟨rfl,hb2⟩;have hK2:=hK1.later hb2;have H2:=H1.later hb2;have Q2:=Q1.later hb2;obtain⟨q0,q1,q2,q3,q4,q5,q6,q7⟩:=id Q2;dsimp only at q0 q1 q2 q3 q4 q5 q6 q7;replace hb2:=AA hb1 hb2;rcases hnm:AM tb))
 ·
  go_ret
  exact⟨AN (by rw [HR.out]),hb2⟩
 go_wp2;go_ret
 exact⟨AN (by rw [HR.out]),hb2⟩
theorem Uc(d:St)(p:Sa)(w:ο)(h:SM w d p)(hT:SpT w):VK μ 28 #[χ (GC d p)] w λe w'=>e=ρ (β (AK d))/\υ w.heap.size w w':=by
 obtain⟨k,tb,n2,C,n3,V,col,n5,E,n6,W,n7,m7,O⟩:=d;obtain⟨a2,c2,a3,c3,a5,c5,a6,c6,a7,c7⟩:=p;by_cases e1:k=1
 · subst e1;exact TI tb n2 C n3 V col n5 E n6 W n7 m7 O a2 c2 a3 c3 a5 c5 a6 c6 a7 c7 _ rfl w h hT
 by_cases e2:k=2
 · subst e2;exact TH tb n2 C n3 V col n5 E n6 W n7 m7 O a2 c2 a3 c3 a5 c5 a6 c6 a7 c7 _ rfl w h hT
 by_cases e3:k=3
 · subst e3;exact TG tb n2 C n3 V col n5 E n6 W n7 m7 O a2 c2 a3 c3 a5 c5 a6 c6 a7 c7 _ rfl w h hT
 by_cases e4:k=4
 · subst e4;exact TF tb n2 C n3 V col n5 E n6 W n7 m7 O a2 c2 a3 c3 a5 c5 a6 c6 a7 c7 _ rfl w h hT
 by_cases e5:k=5
 · subst e5;exact QY tb n2 C n3 V col n5 E n6 W n7 m7 O a2 c2 a3 c3 a5 c5 a6 c6 a7 c7 _ rfl w h hT
 · exact TJ k e1 e2 e3 e4 e5 tb n2 C n3 V col n5 E n6 W n7 m7 O a2 c2 a3 c3 a5 c5 a6 c6 a7 c7 _ rfl w h hT
def GJ(C:Nat->Clm)(n:Nat)(m:Nat->Nat)(O:Nat->Nat->Itm):Nat->Int
 | 0=>0
 | k+1=>if GJ C n m O k=0 then (DA C n (O k) (m k)).2 else GJ C n m O k
theorem Jg{C:Nat->Clm}{n:Nat}{m:Nat->Nat}{O:Nat->Nat->Itm}{k:Nat}(h:¬GJ C n m O k=0):∀ r,k<=r->GJ C n m O r=GJ C n m O k:=by
 intro r hr;induction r with
 | zero=>
  obtain rfl:k=0:=by omega
  rfl
 | succ r ih=>
  by_cases e:k=r+1
  · subst e;rfl
  · have:=ih (by omega);rw [GJ,this,if_neg h]
def Hv(C:Nat->Clm)(n:Nat)(m:Nat->Nat)(O:Nat->Nat->Itm)(n7:Nat)(W:Nat->Itm)(n6:Nat):Int:=if GJ C n m O n7=0 then CM C n W n6 else GJ C n m O n7
def Bf(n:Nat)(T:Nat->Td)(d:St):List Td×Int:=
 if A2 n T=false then ([],7) else if AK d=false then ([],7) else if d.k=1 then FL T n d.tb d.n2 d.C
 else match An T d.tb n with
  | none=>(Ap T n,1)
  | some j=>if d.k=2 then Gi T n (T j).s (T j).n (T j).C (T j).r (T j).m (T j).R d.n3 d.V
   else if d.k=3 then Gd T n (T j).s (T j).n (T j).C (T j).r (T j).m (T j).R d.col d.E d.n5 d.W d.n6
   else if d.k=4 then JO T n (T j).s (T j).n (T j).C (T j).r (T j).m (T j).R d.W d.n6
   else (Ap T n,Hv (T j).C (T j).n d.m7 d.O d.n7 d.W d.n6)
theorem CE{n j:Nat}{p:Nat->Bool}(h:allN n p=true)(hj:j<n):p j=true:=by
 rcases hp:p j with _ | _
 · rw [Am hj hp] at h;cases h
 · rfl
theorem Kv{o m:Int}{s:ByteArray}{k:Int}(h:BB o m s k=true):s.size<=200:=by
 unfold BB at h;simp only [VO] at h
 have h2:=h.2;split at h2
 · simp only [decide_eq_true_eq] at h2;omega
 · simp only [VO] at h2;exact Ei h2.2
theorem CF{d:Td}(h:Br d=true):AM d.s=true/\0<d.n/\d.n<=20/\d.r<=1000/\allN d.n (BJ d.C)=true/\∀ i,i<d.r->A5 d.n d.C d.m d.R i=true:=by
 unfold Br Bk at h;simp only [VO,Bn,decide_eq_true_eq] at h
 obtain⟨⟨⟨⟨h1,h2,h3⟩,h4⟩,h5⟩,h6⟩:=h;exact⟨h1,by omega,by omega,h4,h5,λi hi=>CE h6 hi⟩
theorem Bi{d:Td}(h:Br d=true):Nice d.n d.r d.m d.R:=by
 obtain⟨-,h1,h2,h3,-,h4⟩:=CF h;refine⟨h1,by omega,by omega,λk hk=>?_,λk hk j hj=>?_⟩
 ·
  have:=h4 k hk;unfold A5 at this;simp only [VO,decide_eq_true_eq] at this
  exact this.1.1
 ·
  have:=h4 k hk;unfold A5 at this;simp only [VO,decide_eq_true_eq] at this
  exact Kv (CE this.1.2 (by rw [this.1.1];exact hj))
theorem Ax{n:Nat}{T:Nat->Td}(h:A2 n T=true):n<=100/\∀ k,k<n->Br (T k)=true:=by
 unfold A2 Ga at h;simp only [VO,decide_eq_true_eq] at h
 exact⟨h.1.1,λk hk=>CE h.1.2 hk⟩
theorem Ju{n:Nat}{T:Nat->Td}(h:A2 n T=true):MM n T:=λk hk=>by
 have hN:=Bi ((Ax h).2 k hk);exact⟨hN.n0,λi hi=>by rw [hN.len i hi];exact hN.n0⟩
theorem Bx{d:St}(h:AK d=true):BR d=true:=by
 unfold AK at h;simp only [VO] at h
 exact h.2
theorem QT{d:St}(h:AK d=true)(e:d.k=1):0<d.n2/\d.n2<=20:=by
 have:=Bx h;unfold BR at this;rw [if_pos e] at this;simp only [VO,Bn,decide_eq_true_eq] at this
 omega
theorem QS{d:St}(h:AK d=true)(e:d.k=2):0<d.n3/\d.n3<=20/\∀ j,j<d.n3->(d.V j).s.size<=1048576:=by
 have:=Bx h;unfold BR at this;rw [if_neg (by omega),if_pos e] at this;simp only [VO,Bn,decide_eq_true_eq] at this
 refine⟨by omega,by omega,λj hj=>?_⟩;have h2:=CE this.2 hj;unfold Aa at h2;simp only [Bool.or_eq_true,VO,decide_eq_true_eq] at h2
 rcases h2 with ⟨-,h2⟩ | ⟨-,h2⟩
 · omega
 · have:=Ei h2;omega
theorem Lg{d:St}(h:AK d=true)(e:d.k=3):AZ d.E d.n5=true/\AI d.W d.n6=true:=by
 have:=Bx h;unfold BR at this;rw [if_neg (by omega),if_neg (by omega),if_pos e] at this;simp only [VO] at this
 exact⟨this.1.2,this.2⟩
theorem Nh{d:St}(h:AK d=true)(e:d.k=4):AI d.W d.n6=true:=by
 have:=Bx h;unfold BR at this;rwa [if_neg (by omega),if_neg (by omega),if_neg (by omega),if_pos e] at this
theorem IS{d:St}(h:AK d=true)(e:d.k=5):0<d.n7/\d.n7<=20/\(∀ j,j<d.n7->AZ (d.O j) (d.m7 j)=true)/\AI d.W d.n6=true:=by
 have:=Bx h;unfold BR at this;rw [if_neg (by omega),if_neg (by omega),if_neg (by omega),if_neg (by omega),if_pos e] at this;simp only [VO,Bn,decide_eq_true_eq] at this
 have h2:allN d.n7 (λj=>AZ (d.O j) (d.m7 j))=true:=this.1.2;exact⟨by omega,by omega,λj hj=>CE (p:=λj=>AZ (d.O j) (d.m7 j)) h2 hj,this.2⟩
theorem Ng{d:St}(h:AK d=true):d.k=1∨d.k=2∨d.k=3∨d.k=4∨d.k=5:=by
 have:=Bx h;unfold BR at this;by_cases h1:d.k=1
 · exact VV h1
 by_cases h2:d.k=2
 · exact Vb (VV h2)
 by_cases h3:d.k=3
 · exact Vb (Vb (VV h3))
 by_cases h4:d.k=4
 · exact Vb (Vb (Vb (VV h4)))
 by_cases h5:d.k=5
 · exact Vb (Vb (Vb (Vb h5)))
 rw [if_neg h1,if_neg h2,if_neg h3,if_neg h4,if_neg h5] at this;cases this
theorem TN.tc{w:ο}{g n:Nat}{T:Nat->Td}(h:TN w g n T):TC w g n T:=λk hk=>by
 obtain⟨g1,cc,g2,cr,h0,h1,h2,hc,hC,hR,hs⟩:=h k hk;exact⟨g1,cc,_,cr,h0,h1,h2,hc.1,hC,hR,hs⟩
structure Ro where
 b:Nat
 c:Nat
 x:Rw
abbrev Dm:=DataW Unit
def Ro.v(r:Ro):VN:=σ (ς ⟨r.b,0,ν⟩) r.x.1 r.c
def Ro.d(r:Ro):Dm:=.agg [.lit (.int .i64 r.b),.lit (.int .i64 r.x.1),.lit (.int .i64 r.c)]
def Bq:VN->Option (Dm×List MemPlace)
 | .slice ν 0 0=>ς (.nil,[])
 | .slice (ς ⟨b,0,ν⟩) n c=>ς (.agg [.lit (.int .i64 b),.lit (.int .i64 n),.lit (.int .i64 c)],[])
 | _=>ν
theorem Ds:Bq (σ ν 0 0)=ς (.nil,[]):=rfl
theorem Nc{v:VN}{r:Ro}{ps:List MemPlace}(h:Bq v=ς (r.d,ps)):v=r.v:=by
 unfold Bq at h;split at h
 · simp [Ro.d] at h
 ·
  rename_i b n c
  simp only [Ro.d,Option.some.injEq,Prod.mk.injEq,DataW.agg.injEq,List.cons.injEq,DataW.lit.injEq,Lit.int.injEq,true_and,and_true] at h
  obtain⟨⟨h1,h2,h3⟩,-⟩:=h;unfold Ro.v;rw [Int.ofNat_inj.1 h1,Int.ofNat_inj.1 h2,Int.ofNat_inj.1 h3]
 · cases h
def MpC(D:Dm)(A:List (Lit×Dm)):Prop:=∃ es,D=.map es/\es.Perm A/\A.Pairwise (λp q=>p.1≠q.1)
theorem GP(x:Lit×Dm):∀ l:List (Lit×Dm),(DataW.insert x l).Perm (x :: l)
 | []=>List.Perm.refl _
 | y :: r=>by
  unfold DataW.insert;split
  · exact List.Perm.refl _
  · exact((GP x r).cons y).trans (List.Perm.swap x y r)
theorem MpC.nil:MpC (.map []) []:=⟨[],rfl,List.Perm.refl _,List.Pairwise.nil⟩
theorem MpC.size{D:Dm}{A:List (Lit×Dm)}(h:MpC D A):Maps.size D=A.length:=by
 obtain⟨es,rfl,hp,-⟩:=h;exact hp.length_eq
theorem MpC.has{D:Dm}{A:List (Lit×Dm)}(h:MpC D A)(k:Lit):Maps.has D k=A.any λp=>p.1.sameKey k:=by
 obtain⟨es,rfl,hp,-⟩:=h;rw [Maps.has_eq,Bool.eq_iff_iff,List.any_eq_true,List.any_eq_true];exact⟨λ⟨p,h1,h2⟩=>⟨p,hp.mem_iff.1 h1,h2⟩,λ⟨p,h1,h2⟩=>⟨p,hp.mem_iff.2 h1,h2⟩⟩
theorem MpC.at{D:Dm}{A:List (Lit×Dm)}(h:MpC D A){p:Lit×Dm}(hp:p∈A)(hs:p.1.sameKey p.1=true)(z:Dm):D.atKey p.1 z=p.2:=by
 obtain⟨es,rfl,hpm,hw⟩:=h;have hq:p∈es:=hpm.mem_iff.2 hp;have hw2:es.Pairwise (λp q=>p.1≠q.1):=(hpm.pairwise_iff (λ{_ _} hne=>Ne.symm hne)).2 hw;unfold DataW.atKey;dsimp only
 cases hf:es.find? (λq=>q.1.sameKey p.1) with
 | none=>
  have:=List.find?_eq_none.1 hf p hq;simp [hs] at this
 | some q=>
  have h1:=List.find?_some hf;have h2:=List.mem_of_find?_eq_some hf;have e:q.1=p.1:=WideAt.sameKey_eq h1;dsimp only
  by_cases e2:q=p
  · rw [e2]
  ·
   exfalso
   have:∀ {l:List (Lit×Dm)},l.Pairwise (λp q=>p.1≠q.1)->p∈l->q∈l->False:=by
    intro l hl;induction hl with
    | nil=>intro h;cases h
    | cons hx _ ih=>
     intro a1 a2;rcases List.mem_cons.1 a1 with b1 | b1
     ·
      rcases List.mem_cons.1 a2 with b2 | b2
      · exact e2 (b2.trans b1.symm)
      · subst b1;exact hx _ b2 e.symm
     ·
      rcases List.mem_cons.1 a2 with b2 | b2
      · subst b2;exact hx _ b1 e
      · exact ih b1 b2
   exact this hw2 hq h2
theorem LG{α:Type}{f:α->Bool}:∀ {l:List α},(∀ x∈l,f x=true)->l.filter f=l:=λh=>List.filter_eq_self.2 h
theorem MpC.put{D:Dm}{A:List (Lit×Dm)}(h:MpC D A){k:Lit}(hk:(A.any λp=>p.1.sameKey k)=false)(hk2:k.sameKey k=true)(d:Dm):MpC (D.put k d) (A ++ [(k,d)]):=by
 obtain⟨es,rfl,hp,hw⟩:=h;have hn:∀ p∈A,p.1.sameKey k=false:=λp hpA=>by
  have:=List.any_eq_false.1 hk p hpA;simpa using this
 refine⟨_,rfl,?_,?_⟩
 · rw [LG (λp hpe=>by rw [hn p (hp.mem_iff.1 hpe)];rfl)];exact(GP _ _).trans ((hp.cons _).trans (List.perm_append_singleton _ _).symm)
 · rw [List.pairwise_append];refine⟨hw,List.pairwise_singleton _ _,λp hpA q hq=>?_⟩;rw [List.mem_singleton] at hq;subst hq;intro e;have:=hn p hpA;rw [e,hk2] at this;cases this
theorem MpC.del{D:Dm}{A:List (Lit×Dm)}(h:MpC D A)(k:Lit):MpC (D.del k) (A.filter λp=>!p.1.sameKey k):=by
 obtain⟨es,rfl,hp,hw⟩:=h;exact⟨_,rfl,hp.filter _,hw.filter _⟩
def kI(x:Rw):Lit:=.int .i64 (x.2 0).m
def kS(x:Rw):Lit:=.string (x.2 0).s.data.toList
theorem Lv(x:Rw):(kI x).sameKey (kI x)=true:=by simp [kI,Lit.sameKey]
theorem Lu(x:Rw):(kS x).sameKey (kS x)=true:=by simp [kS,Lit.sameKey]
def Kh(key:Rw->Lit)(L:List Ro):List (Lit×Dm):=L.map λr=>(key r.x,r.d)
def KM(K:TypeId)(key:Rw->Lit)(w:ο)(b:Nat)(L:List Ro):Prop:=∃ D,w.ownsMap μ K Bq b L.length D/\MpC D (Kh key L)
def Cq(key:Rw->Lit)(L:List Ro)(k:Lit):Bool:=L.any λq=>(key q.x).sameKey k
theorem I5(key:Rw->Lit)(L:List Ro)(k:Lit):((Kh key L).any λp=>p.1.sameKey k)=Cq key L k:=by
 unfold Kh Cq;rw [List.any_map];rfl
theorem Ma{P:Program}{k:TypeId}{R:VN->Option (Dm×List MemPlace)}{w:ο}{b n:Nat}{D:Dm}(h:w.ownsMap P k R b n D):w.ownsMap P k R b (Maps.size D) D:=by
 obtain⟨es,clock,hb,F,hs,rfl⟩:=h;exact⟨es,clock,hb,F,by simp [Maps.size,length_sorted],rfl⟩
theorem EM(key:Rw->Lit)(L:List Ro):(Kh key L).length=L.length:=by simp [Kh]
theorem KM.mk{K:TypeId}{key:Rw->Lit}{w:ο}{b n:Nat}{D:Dm}{L:List Ro}(h:w.ownsMap μ K Bq b n D)(hm:MpC D (Kh key L)):KM K key w b L:=by
 refine⟨D,?_,hm⟩;have:=Ma h;rwa [hm.size,EM] at this
theorem KM.later{K:TypeId}{key:Rw->Lit}{w w':ο}{b:Nat}{L:List Ro}(h:KM K key w b L)(hb:υ w.heap.size w w'):KM K key w' b L:=by
 obtain⟨D,h1,h2⟩:=h;have hbl:=h1.lt;obtain⟨es,clock,hx,Ft,hs,hD⟩:=h1;exact⟨D,⟨es,clock,(hb.block b hbl).trans hx,Ft,hs,hD⟩,h2⟩
theorem KM.lt{K:TypeId}{key:Rw->Lit}{w:ο}{b:Nat}{L:List Ro}(h:KM K key w b L):b<w.heap.size:=by
 obtain⟨D,h1,h2⟩:=h;exact h1.lt
theorem KM.put{K:TypeId}{key:Rw->Lit}{w':ο}{b n:Nat}{D:Dm}{L:List Ro}{r:Ro}(hm:MpC D (Kh key L))(hk:Cq key L (key r.x)=false)(hs:(key r.x).sameKey (key r.x)=true)(h:w'.ownsMap μ K Bq b n (D.put (key r.x) r.d)):KM K key w' b (L ++ [r]):=by
 refine KM.mk h ?_;have:=hm.put (k:=key r.x) (by rw [I5];exact hk) hs r.d;simpa [Kh] using this
def IB(key:Rw->Lit)(L:List Ro)(k:Lit):List Ro:=L.filter λq=>!(key q.x).sameKey k
theorem KM.del{K:TypeId}{key:Rw->Lit}{w':ο}{b n:Nat}{D:Dm}{L:List Ro}{k:Lit}(hm:MpC D (Kh key L))(h:w'.ownsMap μ K Bq b n (D.del k)):KM K key w' b (IB key L k):=by
 refine KM.mk h ?_;have:=hm.del k;unfold Kh at this;rw [List.filter_map] at this;exact this
def As(key:Rw->Lit)(L:List Ro):List Ro->Bool×List Ro
 | []=>(true,L)
 | r :: rs=>if Cq key L (key r.x)=true then (false,L) else As key (L ++ [r]) rs
def Au(key:Rw->Lit)(L:List Ro):List Rw->List Ro
 | []=>L
 | x :: xs=>Au key (IB key L (key x)) xs
theorem N5:Keyed μ 3:=int_keyed Tryz.underlying3
theorem IF(w:ο):(zeroValue 30).run μ w=.ok (σ ν 0 0) w:=by kernel_rfl
theorem Ag{W:ο}{R:Nat}{x y:VN}{t:TypeId}(h:W.heap[R]?=ς (γ #[x,y] t (0,0))):W.cell? ⟨R,0,ν⟩=ς x/\W.cell? ⟨R,1,ν⟩=ς y:=⟨ε _ _ 0 _ _ _ h,ε _ _ 1 _ _ _ h⟩
def o0:Ro:=⟨0,0,r0⟩
def RS(w:ο)(a:Option Addr)(L:List Ro):Prop:=∀ k,k<L.length->∃ g off,a=ς ⟨g,off,ν⟩/\w.cell? ⟨g,off+k,ν⟩=ς (L.getD k o0).v
def RL(w:ο)(L:List Ro):Prop:=∀ r∈L,IL w (ς ⟨r.b,0,ν⟩) r.x.1 r.x.2/\0<r.x.1
def AllC(w w':ο):Prop:=∀ a v,w.cell? a=ς v->w'.cell? a=ς v
theorem AllC.below{w w':ο}(h:υ w.heap.size w w'):AllC w w':=λ_ _ hc=>AB h hc
theorem Ov{w:ο}{b:Nat}{es:Array MapEntry}{cl:Nat}(h:w.heap[b]?=ς (.map es cl)){a:Addr}{v:VN}(hc:w.cell? a=ς v):a.block≠b:=λe=>by
 unfold World.cell? at hc;rw [e,h] at hc;cases hc
theorem AllC.own{P:Program}{K:TypeId}{R:VN->Option (Dm×List MemPlace)}{w w':ο}{mb n:Nat}{D:Dm}(h:w.ownsMap P K R mb n D)(hg:w.grownBy w' (ς mb)):AllC w w':=λa v hc=>by
 obtain⟨es,cl,hb,-⟩:=h;have hne:=Ov hb hc;exact(World.cell?_of_block (hg.block _ (World.block_lt_of_cell? w _ hc) (λe=>hne (VF e)))).trans hc
theorem AllC.km{K:TypeId}{key:Rw->Lit}{w w':ο}{mb:Nat}{L:List Ro}(h:KM K key w mb L)(hg:w.grownBy w' (ς mb)):AllC w w':=by
 obtain⟨D,h1,-⟩:=h;exact AllC.own h1 hg
theorem RS.all{w w':ο}{a:Option Addr}{L:List Ro}(h:RS w a L)(k:AllC w w'):RS w' a L:=λj hj=>by
 obtain⟨g,off,e,hc⟩:=h j hj;exact⟨g,off,e,k _ _ hc⟩
theorem IL.all{w w':ο}{a:Option Addr}{n:Nat}{I:Nat->Itm}(h:IL w a n I)(k:AllC w w'):IL w' a n I:=h.lb w' λa v _ hc=>k a v hc
theorem OL.all{w w':ο}{a:Option Addr}{n:Nat}{m:Nat->Nat}{O:Nat->Nat->Itm}(h:OL w a n m O)(k:AllC w w'):OL w' a n m O:=h.lb w' λa v _ hc=>k a v hc
theorem RL.all{w w':ο}{L:List Ro}(h:RL w L)(k:AllC w w'):RL w' L:=λr hr=>⟨(h r hr).1.all k,(h r hr).2⟩
theorem E0{L:List Ro}{k:Nat}(h:k<L.length):L.getD k o0∈L:=Ae h
theorem P9{L:List Ro}{k:Nat}(h:k<L.length):L.drop k=L.getD k o0 :: L.drop (k+1):=by
 rw [List.drop_eq_getElem_cons h];simp [h]
theorem Kc{key:Rw->Lit}{C L:List Ro}{k:Nat}(h:k<L.length):As key C (L.drop k)=if Cq key C (key (L.getD k o0).x)=true then (false,C) else As key (C ++ [L.getD k o0]) (L.drop (k+1)):=by
 rw [P9 h,As]
theorem P0{w:ο}{o:Obj}(r:Option Nat):w.grownBy (w.alloc o) r:=World.grownBy_alloc w o r
theorem T5{a b c:ο}{r:Nat}(h:a.grownBy b (ς r))(k:b.grownBy c (ς r)):a.grownBy c (ς r):=h.trans k
theorem GR(mb:Nat)(a:Option Addr)(c:Nat)(L L':List Ro)(w:ο)(hM:KM 3 kI w mb L)(hR:RS w a L')(hL:RL w L')(hn:L.length+L'.length<=1048576)(hK:∀ r∈L',keyOf μ 3 (ι κ (r.x.2 0).m)=ς (kI r.x)) :
 VK μ 137 #[χ #[.map (ς mb),.func (.func 100) #[] #[]],σ a L'.length c] w λe w'=>e=ρ (β (As kI L L').1)/\KM 3 kI w' mb (As kI L L').2/\w.grownBy w' (ς mb):=by
 have hbU:=AD w (γ #[.map (ς mb),.func (.func 100) #[] #[]] 175);have hq:=η w (γ #[.map (ς mb),.func (.func 100) #[] #[]] 175);have hml:=hM.lt;go_enter Tryz.func137,Tryz.ntmps137
 go_wp2;go_loopw [6,7,8,9,12] (λ_ _ _ _ i wr=>∃ (k:Nat) (C:List Ro),k<=L'.length/\i=ι κ k/\As kI L L'=As kI C (L'.drop k)/\C.length=L.length+k/\KM 3 kI wr mb C/\wr.heap[w.heap.size]?=ς (γ #[.map (ς mb),.func (.func 100) #[] #[]] 175 (0,0))/\w.grownBy wr (ς mb)) (λ_ _ _ _ i _=>L'.length - (VQ i).toNat)
 case atStart=>exact⟨0,L,by omega,rfl,rfl,rfl,hM.later hbU,hq,P0 _⟩
 case round=>
  obtain⟨k,C,hk,rfl,hA,hCl,hMk,hrow,hg⟩:=hrel;have hall:=AllC.km hM hg;have HA:Hid (As kI L L'=As kI C (L'.drop k)):=hA;clear hA;by_cases hlt:k<L'.length
  ·
   obtain⟨g,off,rfl,c0⟩:=(hR.all hall) k hlt;have hm:=E0 hlt;obtain⟨hI,hp⟩:=(hL.all hall) _ hm;have HA1:Hid (As kI C (L'.drop k)=if Cq kI C (kI (L'.getD k o0).x)=true then (false,C) else As kI (C ++ [L'.getD k o0]) (L'.drop (k+1))):=Kc hlt
   generalize L'.getD k o0=R at c0 hm hI hp HA1;have hkey:keyOf μ 3 (ι κ (R.x.2 0).m)=ς (kI R.x):=hK R hm;obtain⟨m0,m1⟩:=Ag hrow;have HR:Hid (wr.heap[w.heap.size]?=ς (γ #[.map (ς mb),.func (.func 100) #[] #[]] 175 (0,0))):=hrow;clear hrow;obtain⟨D,hD,hMC⟩:=hMk;have hh0:Maps.has D (kI R.x)=Cq kI C (kI R.x):=by rw [hMC.has,I5]
   unfold Ro.v at c0;rcases hh:Cq kI C (kI R.x)
   ·
    rw [hh] at hh0;have HE:Hid (As kI L L'=As kI (C ++ [R]) (L'.drop (k+1))):=by have q:=HA1.out;rw [hh] at q;exact HA.out.trans q
    have hve:Bq (σ (ς ⟨R.b,0,ν⟩) R.x.1 R.c)=ς (R.d,[]):=rfl;have HV:Hid (Bq (σ (ς ⟨R.b,0,ν⟩) R.x.1 R.c)=ς (R.d,[])):=hve;clear hve;go_wp2_with (first | (go_at_call 100;refine(EN _ _ _ _ _ hI hp).mono ?_;rintro e w1 ⟨rfl,rfl⟩) | (at_lookup;refine wpList_lookup_own_ok _ rfl _ _ 173 rfl 3 30 N5 Tryz.underlying173 Bq (IF _) .nil [] Ds mb _ D rfl hD _ _ rfl hkey ?_;intro vz pz hz;rw [hh0];clear hz) | (at_mapUpdate;refine wpList_mapUpdate_own _ rfl _ _ _ 173 rfl 3 30 N5 Tryz.underlying173 Bq mb _ D rfl hD (by unfold maxLen;omega) _ _ _ rfl rfl hkey R.d [] HV.out ?_;intro w2 hown2 hgrow2) | go_in)
    go_roundw
    case rel=>exact⟨k+1,C ++ [R],by omega,by go_num,HE.out,by simp [hCl];omega,KM.put hMC hh (Lv _) hown2,A9 HR.out hgrow2 (by omega),T5 hg hgrow2⟩
    case measure=>simp [VQ];omega
   ·
    rw [hh] at hh0;have HE:Hid (As kI L L'=(false,C)):=by have q:=HA1.out;rw [hh] at q;exact HA.out.trans q
    go_wp2_with (first | (go_at_call 100;refine(EN _ _ _ _ _ hI hp).mono ?_;rintro e w1 ⟨rfl,rfl⟩) | (at_lookup;refine wpList_lookup_own_ok _ rfl _ _ 173 rfl 3 30 N5 Tryz.underlying173 Bq (IF _) .nil [] Ds mb _ D rfl hD _ _ rfl hkey ?_;intro vz pz hz;rw [hh0];clear hz) | go_in)
    go_ret
    rw [HE.out];exact⟨rfl,⟨D,hD,hMC⟩,hg⟩
  ·
   obtain rfl:k=L'.length:=by omega
   go_wp2;go_ret
   have HE:=HA.out;rw [List.drop_length,As] at HE;rw [HE];exact⟨rfl,hMk,hg⟩
theorem GQ(mb:Nat)(a:Option Addr)(c:Nat)(L L':List Ro)(w:ο)(hM:KM 9 kS w mb L)(hR:RS w a L')(hL:RL w L')(hn:L.length+L'.length<=1048576)(hK:∀ r∈L',keyOf μ 9 (τ (r.x.2 0).s)=ς (kS r.x)) :
 VK μ 142 #[χ #[.map (ς mb),.func (.func 102) #[] #[]],σ a L'.length c] w λe w'=>e=ρ (β (As kS L L').1)/\KM 9 kS w' mb (As kS L L').2/\w.grownBy w' (ς mb):=by
 have hbU:=AD w (γ #[.map (ς mb),.func (.func 102) #[] #[]] 182);have hq:=η w (γ #[.map (ς mb),.func (.func 102) #[] #[]] 182);have hml:=hM.lt;go_enter Tryz.func142,Tryz.ntmps142
 go_wp2;go_loopw [6,7,8,9,12] (λ_ _ _ _ i wr=>∃ (k:Nat) (C:List Ro),k<=L'.length/\i=ι κ k/\As kS L L'=As kS C (L'.drop k)/\C.length=L.length+k/\KM 9 kS wr mb C/\wr.heap[w.heap.size]?=ς (γ #[.map (ς mb),.func (.func 102) #[] #[]] 182 (0,0))/\w.grownBy wr (ς mb)) (λ_ _ _ _ i _=>L'.length - (VQ i).toNat)
 case atStart=>exact⟨0,L,by omega,rfl,rfl,rfl,hM.later hbU,hq,P0 _⟩
 case round=>
  obtain⟨k,C,hk,rfl,hA,hCl,hMk,hrow,hg⟩:=hrel;have hall:=AllC.km hM hg;have HA:Hid (As kS L L'=As kS C (L'.drop k)):=hA;clear hA;by_cases hlt:k<L'.length
  ·
   obtain⟨g,off,rfl,c0⟩:=(hR.all hall) k hlt;have hm:=E0 hlt;obtain⟨hI,hp⟩:=(hL.all hall) _ hm;have HA1:Hid (As kS C (L'.drop k)=if Cq kS C (kS (L'.getD k o0).x)=true then (false,C) else As kS (C ++ [L'.getD k o0]) (L'.drop (k+1))):=Kc hlt
   generalize L'.getD k o0=R at c0 hm hI hp HA1;have hkey:keyOf μ 9 (τ (R.x.2 0).s)=ς (kS R.x):=hK R hm;obtain⟨m0,m1⟩:=Ag hrow;have HR:Hid (wr.heap[w.heap.size]?=ς (γ #[.map (ς mb),.func (.func 102) #[] #[]] 182 (0,0))):=hrow;clear hrow;obtain⟨D,hD,hMC⟩:=hMk;have hh0:Maps.has D (kS R.x)=Cq kS C (kS R.x):=by rw [hMC.has,I5]
   unfold Ro.v at c0;rcases hh:Cq kS C (kS R.x)
   ·
    rw [hh] at hh0;have HE:Hid (As kS L L'=As kS (C ++ [R]) (L'.drop (k+1))):=by have q:=HA1.out;rw [hh] at q;exact HA.out.trans q
    have hve:Bq (σ (ς ⟨R.b,0,ν⟩) R.x.1 R.c)=ς (R.d,[]):=rfl;have HV:Hid (Bq (σ (ς ⟨R.b,0,ν⟩) R.x.1 R.c)=ς (R.d,[])):=hve;clear hve;go_wp2_with (first | (go_at_call 102;refine(DU _ _ _ _ _ hI hp).mono ?_;rintro e w1 ⟨rfl,rfl⟩) | (at_lookup;refine wpList_lookup_own_ok _ rfl _ _ 180 rfl 9 30 Fk Tryz.underlying180 Bq (IF _) .nil [] Ds mb _ D rfl hD _ _ rfl hkey ?_;intro vz pz hz;rw [hh0];clear hz) | (at_mapUpdate;refine wpList_mapUpdate_own _ rfl _ _ _ 180 rfl 9 30 Fk Tryz.underlying180 Bq mb _ D rfl hD (by unfold maxLen;omega) _ _ _ rfl rfl hkey R.d [] HV.out ?_;intro w2 hown2 hgrow2) | go_in)
    go_roundw
    case rel=>exact⟨k+1,C ++ [R],by omega,by go_num,HE.out,by simp [hCl];omega,KM.put hMC hh (Lu _) hown2,A9 HR.out hgrow2 (by omega),T5 hg hgrow2⟩
    case measure=>simp [VQ];omega
   ·
    rw [hh] at hh0;have HE:Hid (As kS L L'=(false,C)):=by have q:=HA1.out;rw [hh] at q;exact HA.out.trans q
    go_wp2_with (first | (go_at_call 102;refine(DU _ _ _ _ _ hI hp).mono ?_;rintro e w1 ⟨rfl,rfl⟩) | (at_lookup;refine wpList_lookup_own_ok _ rfl _ _ 180 rfl 9 30 Fk Tryz.underlying180 Bq (IF _) .nil [] Ds mb _ D rfl hD _ _ rfl hkey ?_;intro vz pz hz;rw [hh0];clear hz) | go_in)
    go_ret
    rw [HE.out];exact⟨rfl,⟨D,hD,hMC⟩,hg⟩
  ·
   obtain rfl:k=L'.length:=by omega
   go_wp2;go_ret
   have HE:=HA.out;rw [List.drop_length,As] at HE;rw [HE];exact⟨rfl,hMk,hg⟩
theorem FF{o:Oper}{a:Act}{K:Act->ο->Prop}{Q:Exit->Act->ο->Prop}(m x:Operand)(t k:TypeId)(ho:o.op=.call { callee:=.builtin .delete,args:=#[m,x],argTypes:=#[t,k] })
 (e:TypeId) (KK:Keyed μ k) (ht:Tryz.prog.underlying t=ς (.map k e)) (R:VN->Option (Dm×List MemPlace)) (b n:Nat) (D:Dm) (w:ο)
 (hm:a.eval m=.map (ς b)) (hown:w.ownsMap μ k R b n D) (key:VN) (kl:Lit) (hx:a.eval x=key) (hkey:keyOf μ k key=ς kl)
 (h:∀ w',w'.ownsMap μ k R b n (D.del kl)->w.grownBy w' (ς b)->K (a.put o.dst (.tuple #[])) w'):o.wp μ a w K Q:=by
 obtain⟨w',hrun,r1,r2⟩:=hown.drop KK ht hkey o.type;unfold Oper.wp execOp;simp only [ho,resolve,invoke,builtin,Sem.run_bind,Sem.run_pure,Result.andThen_ok,List.map_toArray,List.map_cons,List.map_nil,hm,hx,hrun]
 exact h w' r1 r2.grown
theorem KW{key:Rw->Lit}{C:List Ro}{X:List Rw}{k:Nat}(h:k<X.length):Au key C (X.drop k)=Au key (IB key C (key (X.getD k r0))) (X.drop (k+1)):=by
 rw [List.drop_eq_getElem_cons h,Au];simp [h]
theorem Hj(key:Rw->Lit)(L:List Ro)(k:Lit):(IB key L k).length<=L.length:=List.length_filter_le _ _
theorem KC(mb:Nat)(a:Option Addr)(c:Nat)(L:List Ro)(X:List Rw)(w:ο)(hM:KM 3 kI w mb L)(hO:OL w a X.length (λi=>(X.getD i r0).1) (λi=>(X.getD i r0).2))(hp0:∀ x∈X,0<x.1)(hn:X.length<=1048576)(hK:∀ x∈X,keyOf μ 3 (ι κ (x.2 0).m)=ς (kI x)) :
 VK μ 140 #[χ #[.map (ς mb),.func (.func 100) #[] #[]],σ a X.length c] w λe w'=>e=ρ (θ #[])/\KM 3 kI w' mb (Au kI L X)/\w.grownBy w' (ς mb):=by
 have hbU:=AD w (γ #[.map (ς mb),.func (.func 100) #[] #[]] 175);have hq:=η w (γ #[.map (ς mb),.func (.func 100) #[] #[]] 175);have hml:=hM.lt;go_enter Tryz.func140,Tryz.ntmps140
 go_wp2;go_loopw [5,8] (λ_ i wr=>∃ (k:Nat) (C:List Ro),k<=X.length/\i=ι κ k/\Au kI L X=Au kI C (X.drop k)/\C.length<=L.length/\KM 3 kI wr mb C/\wr.heap[w.heap.size]?=ς (γ #[.map (ς mb),.func (.func 100) #[] #[]] 175 (0,0))/\w.grownBy wr (ς mb)) (λ_ i _=>X.length - (VQ i).toNat)
 case atStart=>exact⟨0,L,by omega,rfl,rfl,VD _,hM.later hbU,hq,P0 _⟩
 case round=>
  obtain⟨k,C,hk,rfl,hA,hCl,hMk,hrow,hg⟩:=hrel;have hall:=AllC.km hM hg;have HA:Hid (Au kI L X=Au kI C (X.drop k)):=hA;clear hA;by_cases hlt:k<X.length
  ·
   obtain⟨g,off,ai,ci,rfl,c0,hI,hsz⟩:=(hO.all hall) k hlt;have hm:X.getD k r0∈X:=Ae hlt;have hp:=hp0 _ hm;have HE:Hid (Au kI L X=Au kI (IB kI C (kI (X.getD k r0))) (X.drop (k+1))):=HA.out.trans (KW hlt);have hkey:keyOf μ 3 (ι κ ((X.getD k r0).2 0).m)=ς (kI (X.getD k r0)):=hK _ hm;dsimp only at c0 hI hsz
   generalize X.getD k r0=R at c0 hm hI hp HE hkey hsz;have HR:Hid (wr.heap[w.heap.size]?=ς (γ #[.map (ς mb),.func (.func 100) #[] #[]] 175 (0,0))):=hrow;clear hrow;obtain⟨D,hD,hMC⟩:=hMk;go_wp2;refine VH (S:=λx=>x.heap[w.heap.size]?=ς (γ #[.map (ς mb),.func (.func 100) #[] #[]] 175 (0,0))) (by kernel_rfl) (HR.out) (λjH=>?_);replace hD:wr.drew.ownsMap μ 3 Bq mb _ D:=hD.drew;replace hI:IL wr.drew _ _ _:=hI;have hg2:w.grownBy wr.drew (ς mb):=hg.trans ⟨rfl,rfl,rfl,VD _,λ_ _ _=>rfl⟩;generalize wr.drew=v at jH hD hI hg2 ⊢;refine tk 0 jH ?_;refine tk 1 jH ?_ (hy:=λx jS=>by obtain⟨m0_,m1_⟩:=Ag jS;go_simp<;>rfl)
   try simp only [zS]
   refine tk 2 jH ?_;refine tk 3 jH ?_ (hy:=λx jS=>by obtain⟨m0_,m1_⟩:=Ag jS;go_simp<;>rfl)
   try simp only [zS]
   refine tk 4 jH ?_
   try simp only [zS]
   refine rd 5 (λK hK=>?_);go_simp;refine(EN _ _ _ _ _ hI hp).mono ?_;rintro e v ⟨rfl,rfl⟩;refine hK.out _ _ jH (λjH=>?_);clear hK K;try simp only [zS]
   refine rd 6 (λK hK=>?_);rw [if_pos (by kernel_rfl)];refine FF (δ 13) (δ 17) 173 3 rfl 30 N5 Tryz.underlying173 Bq mb _ D v rfl hD _ _ rfl hkey ?_;intro w2 hown2 hgrow2;have hHeld2:=A9 jH hgrow2 (by omega);refine hK.out _ _ hHeld2 (λjH=>?_);clear hK K;try simp only [Act.put]
   refine VP (by kernel_rfl) ?_ _;go_wp2;go_roundw
   case rel=>exact⟨k+1,IB kI C (kI R),by omega,by go_num,HE.out,VX (Hj _ _ _) hCl,KM.del hMC hown2,hHeld2,T5 hg2 hgrow2⟩
   case measure=>simp [VQ];omega
  ·
   obtain rfl:k=X.length:=by omega
   go_wp2;go_end0
   have HE:=HA.out;rw [List.drop_length,Au] at HE;rw [HE];exact⟨rfl,hMk,hg⟩
theorem KB(mb:Nat)(a:Option Addr)(c:Nat)(L:List Ro)(X:List Rw)(w:ο)(hM:KM 9 kS w mb L)(hO:OL w a X.length (λi=>(X.getD i r0).1) (λi=>(X.getD i r0).2))(hp0:∀ x∈X,0<x.1)(hn:X.length<=1048576)(hK:∀ x∈X,keyOf μ 9 (τ (x.2 0).s)=ς (kS x)) :
 VK μ 145 #[χ #[.map (ς mb),.func (.func 102) #[] #[]],σ a X.length c] w λe w'=>e=ρ (θ #[])/\KM 9 kS w' mb (Au kS L X)/\w.grownBy w' (ς mb):=by
 have hbU:=AD w (γ #[.map (ς mb),.func (.func 102) #[] #[]] 182);have hq:=η w (γ #[.map (ς mb),.func (.func 102) #[] #[]] 182);have hml:=hM.lt;go_enter Tryz.func145,Tryz.ntmps145
 go_wp2;go_loopw [5,8] (λ_ i wr=>∃ (k:Nat) (C:List Ro),k<=X.length/\i=ι κ k/\Au kS L X=Au kS C (X.drop k)/\C.length<=L.length/\KM 9 kS wr mb C/\wr.heap[w.heap.size]?=ς (γ #[.map (ς mb),.func (.func 102) #[] #[]] 182 (0,0))/\w.grownBy wr (ς mb)) (λ_ i _=>X.length - (VQ i).toNat)
 case atStart=>exact⟨0,L,by omega,rfl,rfl,VD _,hM.later hbU,hq,P0 _⟩
 case round=>
  obtain⟨k,C,hk,rfl,hA,hCl,hMk,hrow,hg⟩:=hrel;have hall:=AllC.km hM hg;have HA:Hid (Au kS L X=Au kS C (X.drop k)):=hA;clear hA;by_cases hlt:k<X.length
  ·
   obtain⟨g,off,ai,ci,rfl,c0,hI,hsz⟩:=(hO.all hall) k hlt;have hm:X.getD k r0∈X:=Ae hlt;have hp:=hp0 _ hm;have HE:Hid (Au kS L X=Au kS (IB kS C (kS (X.getD k r0))) (X.drop (k+1))):=HA.out.trans (KW hlt);have hkey:keyOf μ 9 (τ ((X.getD k r0).2 0).s)=ς (kS (X.getD k r0)):=hK _ hm;dsimp only at c0 hI hsz
   generalize X.getD k r0=R at c0 hm hI hp HE hkey hsz;have HR:Hid (wr.heap[w.heap.size]?=ς (γ #[.map (ς mb),.func (.func 102) #[] #[]] 182 (0,0))):=hrow;clear hrow;obtain⟨D,hD,hMC⟩:=hMk;go_wp2;refine VH (S:=λx=>x.heap[w.heap.size]?=ς (γ #[.map (ς mb),.func (.func 102) #[] #[]] 182 (0,0))) (by kernel_rfl) (HR.out) (λjH=>?_);replace hD:wr.drew.ownsMap μ 9 Bq mb _ D:=hD.drew;replace hI:IL wr.drew _ _ _:=hI;have hg2:w.grownBy wr.drew (ς mb):=hg.trans ⟨rfl,rfl,rfl,VD _,λ_ _ _=>rfl⟩;generalize wr.drew=v at jH hD hI hg2 ⊢;refine tk 0 jH ?_;refine tk 1 jH ?_ (hy:=λx jS=>by obtain⟨m0_,m1_⟩:=Ag jS;go_simp<;>rfl)
   try simp only [zS]
   refine tk 2 jH ?_;refine tk 3 jH ?_ (hy:=λx jS=>by obtain⟨m0_,m1_⟩:=Ag jS;go_simp<;>rfl)
   try simp only [zS]
   refine tk 4 jH ?_
   try simp only [zS]
   refine rd 5 (λK hK=>?_);go_simp;refine(DU _ _ _ _ _ hI hp).mono ?_;rintro e v ⟨rfl,rfl⟩;refine hK.out _ _ jH (λjH=>?_);clear hK K;try simp only [zS]
   refine rd 6 (λK hK=>?_);rw [if_pos (by kernel_rfl)];refine FF (δ 13) (δ 17) 180 9 rfl 30 Fk Tryz.underlying180 Bq mb _ D v rfl hD _ _ rfl hkey ?_;intro w2 hown2 hgrow2;have hHeld2:=A9 jH hgrow2 (by omega);refine hK.out _ _ hHeld2 (λjH=>?_);clear hK K;try simp only [Act.put]
   refine VP (by kernel_rfl) ?_ _;go_wp2;go_roundw
   case rel=>exact⟨k+1,IB kS C (kS R),by omega,by go_num,HE.out,VX (Hj _ _ _) hCl,KM.del hMC hown2,hHeld2,T5 hg2 hgrow2⟩
   case measure=>simp [VQ];omega
  ·
   obtain rfl:k=X.length:=by omega
   go_wp2;go_end0
   have HE:=HA.out;rw [List.drop_length,Au] at HE;rw [HE];exact⟨rfl,hMk,hg⟩
