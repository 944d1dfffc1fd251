import Derived.Test.YtfnfdllflgmhnaaGreatDoorTl
open Bool renaming and_eq_true → XV
open Go renaming Calls → XR, World → ο, cell_of_row → ε, heap_alloc_new → η, wpAnyH_done → XW, wp_region_held_drew → XO
open Go.Ending renaming returned → ρ
open Go.Ground renaming data → φ
open Go.IntKind renaming i64 → κ
open Go.Obj renaming cells → γ
open Go.Op renaming bytesLess → Xh
open Go.Operand renaming tmp → δ
open Go.Proofs.Tryz renaming prog → μ
open Go.RowKit renaming Below → υ, intOf → XX
open Go.RowKit.Below renaming refl → Xa
open Go.Value renaming agg → χ, bool → β, int → ι, pointer → ψ, slice → σ, string → τ
open Nat renaming add_zero → Xm
open Option renaming none → ν, some → ς
namespace Go.Proofs.YtfnfdllflgmhnaaGreatDoor
open Go.RowKit Go.Maps Go.WideMaps
set_option maxRecDepth 20000
set_option maxHeartbeats 8000000
abbrev PR:Oper:=⟨ς 34,.fieldAddr 92 (δ 4) 0,0,"l5_replay.go:32",#[],ν⟩
abbrev PQ:Oper:=⟨ς 35,.load 9 (δ 34),9,"l5_replay.go:32",#[⟨0,φ⟩],ν⟩
abbrev PP:Oper:=⟨ς 36,.call ⟨.value (.func 126),#[δ 35],#[9]⟩,4,"l5_replay.go:32",#[⟨1,φ⟩],ν⟩
abbrev PO:Oper:=⟨ς 37,.unOp .not 4 (δ 36),4,"l5_replay.go:32",#[⟨2,φ⟩],ν⟩
abbrev PN:Oper:=⟨ς 38,.move (δ 37),4,"l5_replay.go:32",#[⟨3,φ⟩,⟨2,.chain⟩],ν⟩
abbrev PM:Oper:=⟨ς 39,.fieldAddr 92 (δ 4) 1,0,"l5_replay.go:32",#[⟨4,.guard⟩],ς (4,false)⟩
abbrev PL:Oper:=⟨ς 40,.load 3 (δ 39),3,"l5_replay.go:32",#[⟨5,φ⟩,⟨4,.guard⟩],ς (4,false)⟩
abbrev PK:Oper:=⟨ς 41,.call ⟨.value (.func 127),#[δ 40],#[3]⟩,4,"l5_replay.go:32",#[⟨6,φ⟩,⟨4,.chain⟩,⟨4,.guard⟩],ς (4,false)⟩
abbrev PJ:Oper:=⟨ς 42,.unOp .not 4 (δ 41),4,"l5_replay.go:32",#[⟨7,φ⟩,⟨4,.guard⟩],ς (4,false)⟩
abbrev PH:Oper:=⟨ς 43,.pick (δ 38) (.const (β true)) (δ 42),4,"l5_replay.go:32",#[⟨4,φ⟩,⟨8,φ⟩],ν⟩
abbrev J9:Oper:=⟨ς 44,.move (δ 43),4,"l5_replay.go:32",#[⟨9,φ⟩,⟨7,.chain⟩],ν⟩
abbrev J8:Oper:=⟨ς 45,.fieldAddr 100 (δ 1) 1,0,"l5_replay.go:32",#[⟨10,.guard⟩],ς (10,false)⟩
abbrev J7:Oper:=⟨ς 46,.load 59 (δ 45),59,"l5_replay.go:32",#[⟨11,φ⟩,⟨10,.guard⟩],ς (10,false)⟩
abbrev J6:Oper:=⟨ς 47,.move (δ 3),3,"l5_replay.go:32",#[⟨10,.guard⟩],ς (10,false)⟩
abbrev J5:Oper:=⟨ς 48,.slice 59 (δ 46) ν (ς (δ 47)) ν,59,"l5_replay.go:32",#[⟨12,φ⟩,⟨13,φ⟩,⟨10,.guard⟩],ς (10,false)⟩
abbrev J4:Oper:=⟨ς 49,.fieldAddr 92 (δ 4) 0,0,"l5_replay.go:32",#[⟨10,.guard⟩],ς (10,false)⟩
abbrev J3:Oper:=⟨ς 50,.load 9 (δ 49),9,"l5_replay.go:32",#[⟨15,φ⟩,⟨10,.guard⟩],ς (10,false)⟩
abbrev J2:Oper:=⟨ς 51,.call ⟨.value (.func 81),#[δ 48,δ 50],#[59,9]⟩,3,"l5_replay.go:32",#[⟨14,φ⟩,⟨16,φ⟩,⟨10,.chain⟩,⟨10,.guard⟩],ς (10,false)⟩
abbrev J1:Oper:=⟨ς 52,.binOp .geq 3 (δ 51) (.const (ι κ 0)) 3,4,"l5_replay.go:32",#[⟨17,φ⟩,⟨10,.guard⟩],ς (10,false)⟩
abbrev J0:Oper:=⟨ς 53,.pick (δ 44) (.const (β true)) (δ 52),4,"l5_replay.go:32",#[⟨10,φ⟩,⟨18,φ⟩],ν⟩
abbrev RP:Oper:=⟨ς 76,.load 94 (δ 8),94,"l5_replay.go:41",#[],ν⟩
abbrev RN:Oper:=⟨ς 77,.fieldAddr 100 (δ 1) 1,0,"l5_replay.go:41",#[],ν⟩
abbrev RM:Oper:=⟨ς 78,.load 59 (δ 77),59,"l5_replay.go:41",#[⟨1,φ⟩],ν⟩
abbrev RL:Oper:=⟨ς 79,.move (δ 7),3,"l5_replay.go:41",#[],ν⟩
abbrev RK:Oper:=⟨ς 80,.indexAddr 59 (δ 78) (δ 79),0,"l5_replay.go:41",#[⟨2,φ⟩,⟨3,φ⟩],ν⟩
abbrev RJ:Oper:=⟨ς 81,.fieldAddr 92 (δ 80) 1,0,"l5_replay.go:41",#[⟨4,φ⟩],ν⟩
abbrev RI:Oper:=⟨ς 82,.load 3 (δ 81),3,"l5_replay.go:41",#[⟨5,φ⟩],ν⟩
abbrev RH:Oper:=⟨ς 83,.call ⟨.value (.func 179),#[δ 76,δ 82],#[94,3]⟩,4,"l5_replay.go:41",#[⟨0,φ⟩,⟨6,φ⟩],ν⟩
abbrev RF:Oper:=⟨ς 84,.unOp .not 4 (δ 83),4,"l5_replay.go:41",#[⟨7,φ⟩],ν⟩
abbrev MN:Oper:=⟨ς 86,.move (δ 5),3,"l5_replay.go:45",#[],ν⟩
abbrev MM:Oper:=⟨ς 87,.binOp .gtr 3 (δ 86) (.const (ι κ 0)) 3,4,"l5_replay.go:45",#[⟨0,φ⟩],ν⟩
abbrev ML:Oper:=⟨ς 88,.move (δ 87),4,"l5_replay.go:45",#[⟨1,φ⟩],ν⟩
abbrev MK:Oper:=⟨ς 89,.fieldAddr 100 (δ 1) 2,0,"l5_replay.go:45",#[⟨2,.guard⟩],ς (2,true)⟩
abbrev MJ:Oper:=⟨ς 90,.load 36 (δ 89),36,"l5_replay.go:45",#[⟨3,φ⟩,⟨2,.guard⟩],ς (2,true)⟩
abbrev MI:Oper:=⟨ς 91,.move (δ 5),3,"l5_replay.go:45",#[⟨2,.guard⟩],ς (2,true)⟩
abbrev MH:Oper:=⟨ς 92,.binOp .sub 3 (δ 91) (.const (ι κ 1)) 3,3,"l5_replay.go:45",#[⟨5,φ⟩,⟨2,.guard⟩],ς (2,true)⟩
abbrev MG:Oper:=⟨ς 93,.indexAddr 36 (δ 90) (δ 92),0,"l5_replay.go:45",#[⟨4,φ⟩,⟨6,φ⟩,⟨2,.guard⟩],ς (2,true)⟩
abbrev MF:Oper:=⟨ς 94,.load 60 (δ 93),60,"l5_replay.go:45",#[⟨7,φ⟩,⟨2,.guard⟩],ς (2,true)⟩
abbrev ME:Oper:=⟨ς 95,.indexAddr 60 (δ 94) (.const (ι κ 0)),0,"l5_replay.go:45",#[⟨8,φ⟩,⟨2,.guard⟩],ς (2,true)⟩
abbrev MD:Oper:=⟨ς 96,.load 94 (δ 95),94,"l5_replay.go:45",#[⟨9,φ⟩,⟨2,.guard⟩],ς (2,true)⟩
abbrev MB:Oper:=⟨ς 97,.move (δ 6),60,"l5_replay.go:45",#[⟨2,.guard⟩],ς (2,true)⟩
abbrev MA:Oper:=⟨ς 98,.indexAddr 60 (δ 97) (.const (ι κ 0)),0,"l5_replay.go:45",#[⟨11,φ⟩,⟨2,.guard⟩],ς (2,true)⟩
abbrev L9:Oper:=⟨ς 99,.load 94 (δ 98),94,"l5_replay.go:45",#[⟨12,φ⟩,⟨2,.guard⟩],ς (2,true)⟩
abbrev L8:Oper:=⟨ς 100,.call ⟨.value (.func 135),#[δ 96,δ 99],#[94,94]⟩,3,"l5_replay.go:45",#[⟨10,φ⟩,⟨13,φ⟩,⟨2,.chain⟩,⟨2,.guard⟩],ς (2,true)⟩
abbrev L7:Oper:=⟨ς 101,.binOp .geq 3 (δ 100) (.const (ι κ 0)) 3,4,"l5_replay.go:45",#[⟨14,φ⟩,⟨2,.guard⟩],ς (2,true)⟩
abbrev L6:Oper:=⟨ς 102,.pick (δ 88) (δ 101) (.const (β false)),4,"l5_replay.go:45",#[⟨2,φ⟩,⟨15,φ⟩],ν⟩
theorem OY(s:ByteArray)(n:Nat)(C:Nat->Clm)(r:Nat)(m:Nat->Nat)(R:Nat->Nat->Itm)(ac ar:Option Addr)(cr:Nat)(w:ο)(hC:CL w ac n C)(hR:OL w ar r m R)(hsm:Sm3 ⟨s,n,C,r,m,R⟩) :
 XR μ 131 #[χ #[τ s,σ ac n n,σ ar r cr]] w λe w'=>e=ρ (β (BZ s n C r m R))/\υ w.heap.size w w':=by
 have hb0:=AE w (γ #[τ s,σ ac n n,σ ar r cr] 100);have hX0:=η w (γ #[τ s,σ ac n n,σ ar r cr] 100);have hss:=hsm.s;have hn:=hsm.co.1;have hrr:=hsm.ro.1;dsimp only at hss hn hrr
 have c0:(w.alloc (γ #[τ s,σ ac n n,σ ar r cr] 100)).cell? ⟨w.heap.size,0,ν⟩=ς (τ s):=(ε _ _ 0 _ _ _ hX0).trans rfl;have c1:(w.alloc (γ #[τ s,σ ac n n,σ ar r cr] 100)).cell? ⟨w.heap.size,1,ν⟩=ς (σ ac n n):=(ε _ _ 1 _ _ _ hX0).trans rfl;have c2:(w.alloc (γ #[τ s,σ ac n n,σ ar r cr] 100)).cell? ⟨w.heap.size,2,ν⟩=ς (σ ar r cr):=(ε _ _ 2 _ _ _ hX0).trans rfl;clear hX0;rcases hq1:AV s
 ·
  have HF:Hid (BZ s n C r m R=false):=by show _=_;unfold BZ;rw [hq1];rfl
  go_enter Tryz.func131,Tryz.ntmps131
  go_wp2_with (go_at_call 126;refine(Dd s _ hss).mono ?_;rw [hq1];rintro e w1 ⟨rfl,hb1⟩;have d1:=AB hb1 c1;have d2:=AB hb1 c2)
  go_ret
  exact⟨AM HF.out.symm,AA hb0 hb1⟩
 rcases hq2:Bb (n:Int) 1 20
 ·
  have HF:Hid (BZ s n C r m R=false):=by show _=_;unfold BZ;rw [hq1,hq2];rfl
  go_enter Tryz.func131,Tryz.ntmps131
  go_wp2_with (first | (go_at_call 126;refine(Dd s _ hss).mono ?_;rw [hq1];rintro e w1 ⟨rfl,hb1⟩;have d1:=AB hb1 c1;have d2:=AB hb1 c2) | (go_at_call 171;refine(Cj _ _ _ _).mono ?_;rw [hq2];rintro e w2 ⟨rfl,rfl⟩))
  go_ret
  exact⟨AM HF.out.symm,AA hb0 hb1⟩
 by_cases hq3:r<=1000
 rotate_left
 ·
  have HF:Hid (BZ s n C r m R=false):=by show _=_;unfold BZ;rw [decide_eq_false hq3];simp
  have hq4:(1000:Int)<r:=by omega
  go_enter Tryz.func131,Tryz.ntmps131
  go_wp2_with (first | (go_at_call 126;refine(Dd s _ hss).mono ?_;rw [hq1];rintro e w1 ⟨rfl,hb1⟩;have d1:=AB hb1 c1;have d2:=AB hb1 c2) | (go_at_call 171;refine(Cj _ _ _ _).mono ?_;rw [hq2];rintro e w2 ⟨rfl,rfl⟩))
  go_ret
  exact⟨AM HF.out.symm,AA hb0 hb1⟩
 have hq4:¬(1000:Int)<r:=by omega
 have h0:0<n:=by
  unfold Bb at hq2;simp at hq2
  omega
 have HT:Hid (BZ s n C r m R=(Aw n (BS C) && Aw r (A9 n C m R))):=by
  show _=_
  unfold BZ;rw [hq1,hq2,decide_eq_true hq3];rfl
 go_enter Tryz.func131,Tryz.ntmps131
 go_wp2_with (first | (go_at_call 126;refine(Dd s _ hss).mono ?_;rw [hq1];rintro e w1 ⟨rfl,hb1⟩;have d1:=AB hb1 c1;have d2:=AB hb1 c2) | (go_at_call 171;refine(Cj _ _ _ _).mono ?_;rw [hq2];rintro e w2 ⟨rfl,rfl⟩))
 have B1:=AA hb0 hb1;clear c0 c1 c2;go_loopw [3,4,29] (λ_ _ i wr=>∃ k:Nat,k<=n/\i=ι κ k/\(∀ j,j<k->BS C j=true)/\υ w2.heap.size w2 wr) (λ_ _ i _=>n - (XX i).toNat)
 case atStart=>exact⟨0,by omega,rfl,λj hj=>by omega,Xa _ _⟩
 case round=>
  obtain⟨k,hk,rfl,hall,hb⟩:=hrel;have B2:=AA B1 hb;by_cases hlt:k<n
  ·
   obtain⟨b,off,rfl,e0,e1,hs⟩:=hC.later B2 k hlt;have hR2:=η wr (γ #[τ (C k).s,ι κ (C k).t] 92);have y0:(wr.alloc (γ #[τ (C k).s,ι κ (C k).t] 92)).cell? ⟨wr.heap.size,0,ν⟩=ς (τ (C k).s):=(ε _ _ 0 _ _ _ hR2).trans rfl;have y1:(wr.alloc (γ #[τ (C k).s,ι κ (C k).t] 92)).cell? ⟨wr.heap.size,1,ν⟩=ς (ι κ (C k).t):=(ε _ _ 1 _ _ _ hR2).trans rfl;clear hR2;have B3:=AE wr (γ #[τ (C k).s,ι κ (C k).t] 92);have x1:=AB B3 (AB hb d1);have hCr:=hC.later (AA B2 B3);have i1:(0:Int)<=(k:Int):=by omega
   have i2:(k:Int)<=(n:Int):=by omega
   rcases hv:AV (C k).s
   ·
    go_wp2;refine XO (S:=λx=>υ (wr.alloc (γ #[τ (C k).s,ι κ (C k).t] 92)).heap.size (wr.alloc (γ #[τ (C k).s,ι κ (C k).t] 92)) x) (by kernel_rfl) (BC _) (λjH=>?_);refine tk 0 PR (λx jS=>by go_simp<;>rfl) jH ?_
    try simp only [zS]
    refine tk 1 PQ (λx jS=>by have k0:=AB jS y0;have k1:=AB jS y1;have k2:=AB jS x1;go_simp<;>rfl) jH ?_
    try simp only [zS]
    refine rd 2 PP (λK hK=>?_);go_simp;refine(Dd _ _ hs).mono ?_;rw [hv];rintro e w3 ⟨rfl,hb3⟩;refine hK.out _ _ (AA jH hb3) (λjH=>?_);clear hK K;try simp only [zS]
    refine tk 3 PO (λx jS=>by go_simp<;>rfl) jH ?_
    try simp only [zS]
    refine tk 4 PN (λx jS=>by go_simp<;>rfl) jH ?_
    try simp only [zS]
    refine Ao 5 PM jH ?_;try simp only [zS]
    refine Ao 6 PL jH ?_;try simp only [zS]
    refine Ao 7 PK jH ?_;try simp only [zS]
    refine Ao 8 PJ jH ?_;try simp only [zS]
    refine tk 9 PH (λx jS=>by go_simp<;>rfl) jH ?_
    try simp only [zS]
    refine tk 10 J9 (λx jS=>by go_simp<;>rfl) jH ?_
    try simp only [zS]
    refine Ao 11 J8 jH ?_;try simp only [zS]
    refine Ao 12 J7 jH ?_;try simp only [zS]
    refine Ao 13 J6 jH ?_;try simp only [zS]
    refine Ao 14 J5 jH ?_;try simp only [zS]
    refine Ao 15 J4 jH ?_;try simp only [zS]
    refine Ao 16 J3 jH ?_;try simp only [zS]
    refine Ao 17 J2 jH ?_;try simp only [zS]
    refine Ao 18 J1 jH ?_;try simp only [zS]
    refine tk 19 J0 (λx jS=>by go_simp<;>rfl) jH ?_
    try simp only [zS]
    refine XW (by kernel_rfl) ?_ _;go_wp2;go_ret
    exact⟨AM (by rw [HT.out,Ae (p:=BS C) hlt (by unfold BS;rw [hv];rfl)];rfl),AA B2 (AA B3 jH)⟩
   rcases ht:DR (C k).t
   ·
    go_wp2;refine XO (S:=λx=>υ (wr.alloc (γ #[τ (C k).s,ι κ (C k).t] 92)).heap.size (wr.alloc (γ #[τ (C k).s,ι κ (C k).t] 92)) x) (by kernel_rfl) (BC _) (λjH=>?_);refine tk 0 PR (λx jS=>by go_simp<;>rfl) jH ?_
    try simp only [zS]
    refine tk 1 PQ (λx jS=>by have k0:=AB jS y0;have k1:=AB jS y1;have k2:=AB jS x1;go_simp<;>rfl) jH ?_
    try simp only [zS]
    refine rd 2 PP (λK hK=>?_);go_simp;refine(Dd _ _ hs).mono ?_;rw [hv];rintro e w3 ⟨rfl,hb3⟩;refine hK.out _ _ (AA jH hb3) (λjH=>?_);clear hK K;try simp only [zS]
    refine tk 3 PO (λx jS=>by go_simp<;>rfl) jH ?_
    try simp only [zS]
    refine tk 4 PN (λx jS=>by go_simp<;>rfl) jH ?_
    try simp only [zS]
    refine tk 5 PM (λx jS=>by go_simp<;>rfl) jH ?_
    try simp only [zS]
    refine tk 6 PL (λx jS=>by have k0:=AB jS y0;have k1:=AB jS y1;have k2:=AB jS x1;go_simp<;>rfl) jH ?_
    try simp only [zS]
    refine rd 7 PK (λK hK=>?_);go_simp;refine(JW _ _).mono ?_;rw [ht];rintro e w4 ⟨rfl,rfl⟩;refine hK.out _ _ (jH) (λjH=>?_);clear hK K;try simp only [zS]
    refine tk 8 PJ (λx jS=>by go_simp<;>rfl) jH ?_
    try simp only [zS]
    refine tk 9 PH (λx jS=>by go_simp<;>rfl) jH ?_
    try simp only [zS]
    refine tk 10 J9 (λx jS=>by go_simp<;>rfl) jH ?_
    try simp only [zS]
    refine Ao 11 J8 jH ?_;try simp only [zS]
    refine Ao 12 J7 jH ?_;try simp only [zS]
    refine Ao 13 J6 jH ?_;try simp only [zS]
    refine Ao 14 J5 jH ?_;try simp only [zS]
    refine Ao 15 J4 jH ?_;try simp only [zS]
    refine Ao 16 J3 jH ?_;try simp only [zS]
    refine Ao 17 J2 jH ?_;try simp only [zS]
    refine Ao 18 J1 jH ?_;try simp only [zS]
    refine tk 19 J0 (λx jS=>by go_simp<;>rfl) jH ?_
    try simp only [zS]
    refine XW (by kernel_rfl) ?_ _;go_wp2;go_ret
    exact⟨AM (by rw [HT.out,Ae (p:=BS C) hlt (by unfold BS;rw [hv,ht];rfl)];rfl),AA B2 (AA B3 jH)⟩
   rcases hc:Ah C (C k).s k
   ·
    go_wp2;refine XO (S:=λx=>υ (wr.alloc (γ #[τ (C k).s,ι κ (C k).t] 92)).heap.size (wr.alloc (γ #[τ (C k).s,ι κ (C k).t] 92)) x) (by kernel_rfl) (BC _) (λjH=>?_);refine tk 0 PR (λx jS=>by go_simp<;>rfl) jH ?_
    try simp only [zS]
    refine tk 1 PQ (λx jS=>by have k0:=AB jS y0;have k1:=AB jS y1;have k2:=AB jS x1;go_simp<;>rfl) jH ?_
    try simp only [zS]
    refine rd 2 PP (λK hK=>?_);go_simp;refine(Dd _ _ hs).mono ?_;rw [hv];rintro e w3 ⟨rfl,hb3⟩;refine hK.out _ _ (AA jH hb3) (λjH=>?_);clear hK K;try simp only [zS]
    refine tk 3 PO (λx jS=>by go_simp<;>rfl) jH ?_
    try simp only [zS]
    refine tk 4 PN (λx jS=>by go_simp<;>rfl) jH ?_
    try simp only [zS]
    refine tk 5 PM (λx jS=>by go_simp<;>rfl) jH ?_
    try simp only [zS]
    refine tk 6 PL (λx jS=>by have k0:=AB jS y0;have k1:=AB jS y1;have k2:=AB jS x1;go_simp<;>rfl) jH ?_
    try simp only [zS]
    refine rd 7 PK (λK hK=>?_);go_simp;refine(JW _ _).mono ?_;rw [ht];rintro e w4 ⟨rfl,rfl⟩;refine hK.out _ _ (jH) (λjH=>?_);clear hK K;try simp only [zS]
    refine tk 8 PJ (λx jS=>by go_simp<;>rfl) jH ?_
    try simp only [zS]
    refine tk 9 PH (λx jS=>by go_simp<;>rfl) jH ?_
    try simp only [zS]
    refine tk 10 J9 (λx jS=>by go_simp<;>rfl) jH ?_
    try simp only [zS]
    refine tk 11 J8 (λx jS=>by go_simp<;>rfl) jH ?_
    try simp only [zS]
    refine tk 12 J7 (λx jS=>by have k0:=AB jS y0;have k1:=AB jS y1;have k2:=AB jS x1;go_simp<;>rfl) jH ?_
    try simp only [zS]
    refine tk 13 J6 (λx jS=>by go_simp<;>rfl) jH ?_
    try simp only [zS]
    refine tk 14 J5 (v:=σ (ς ⟨b,off,ν⟩) k n) (λx jS=>by go_simp<;>rfl) jH ?_
    try simp only [zS]
    refine tk 15 J4 (λx jS=>by go_simp<;>rfl) jH ?_
    try simp only [zS]
    refine tk 16 J3 (λx jS=>by have k0:=AB jS y0;have k1:=AB jS y1;have k2:=AB jS x1;go_simp<;>rfl) jH ?_
    try simp only [zS]
    refine rd 17 J2 (λK hK=>?_);go_simp;refine(R1 _ _ _ C _ _ ((hCr.take (Nat.le_of_lt hlt)).later jH) (by omega)).mono ?_;rintro e w5 ⟨q,rfl,hqq,hb5⟩;rw [hc] at hqq;replace hqq:=show ¬(0:Int)<=q from λhh=>(by cases hqq.1 hh)
    refine hK.out _ _ (AA jH hb5) (λjH=>?_);clear hK K;try simp only [zS]
    refine tk 18 J1 (λx jS=>by go_simp<;>rfl) jH ?_
    try simp only [zS]
    refine tk 19 J0 (λx jS=>by go_simp<;>rfl) jH ?_
    try simp only [zS]
    refine XW (by kernel_rfl) ?_ _;go_wp2;go_roundw
    case rel=>exact⟨k+1,by omega,by go_num,λj hj=>by
     by_cases e:j=k
     · subst e;unfold BS;rw [hv,ht,hc];rfl
     · exact hall j (by omega),AA hb (AA B3 jH)⟩
    case measure=>simp [XX];omega
   ·
    go_wp2;refine XO (S:=λx=>υ (wr.alloc (γ #[τ (C k).s,ι κ (C k).t] 92)).heap.size (wr.alloc (γ #[τ (C k).s,ι κ (C k).t] 92)) x) (by kernel_rfl) (BC _) (λjH=>?_);refine tk 0 PR (λx jS=>by go_simp<;>rfl) jH ?_
    try simp only [zS]
    refine tk 1 PQ (λx jS=>by have k0:=AB jS y0;have k1:=AB jS y1;have k2:=AB jS x1;go_simp<;>rfl) jH ?_
    try simp only [zS]
    refine rd 2 PP (λK hK=>?_);go_simp;refine(Dd _ _ hs).mono ?_;rw [hv];rintro e w3 ⟨rfl,hb3⟩;refine hK.out _ _ (AA jH hb3) (λjH=>?_);clear hK K;try simp only [zS]
    refine tk 3 PO (λx jS=>by go_simp<;>rfl) jH ?_
    try simp only [zS]
    refine tk 4 PN (λx jS=>by go_simp<;>rfl) jH ?_
    try simp only [zS]
    refine tk 5 PM (λx jS=>by go_simp<;>rfl) jH ?_
    try simp only [zS]
    refine tk 6 PL (λx jS=>by have k0:=AB jS y0;have k1:=AB jS y1;have k2:=AB jS x1;go_simp<;>rfl) jH ?_
    try simp only [zS]
    refine rd 7 PK (λK hK=>?_);go_simp;refine(JW _ _).mono ?_;rw [ht];rintro e w4 ⟨rfl,rfl⟩;refine hK.out _ _ (jH) (λjH=>?_);clear hK K;try simp only [zS]
    refine tk 8 PJ (λx jS=>by go_simp<;>rfl) jH ?_
    try simp only [zS]
    refine tk 9 PH (λx jS=>by go_simp<;>rfl) jH ?_
    try simp only [zS]
    refine tk 10 J9 (λx jS=>by go_simp<;>rfl) jH ?_
    try simp only [zS]
    refine tk 11 J8 (λx jS=>by go_simp<;>rfl) jH ?_
    try simp only [zS]
    refine tk 12 J7 (λx jS=>by have k0:=AB jS y0;have k1:=AB jS y1;have k2:=AB jS x1;go_simp<;>rfl) jH ?_
    try simp only [zS]
    refine tk 13 J6 (λx jS=>by go_simp<;>rfl) jH ?_
    try simp only [zS]
    refine tk 14 J5 (v:=σ (ς ⟨b,off,ν⟩) k n) (λx jS=>by go_simp<;>rfl) jH ?_
    try simp only [zS]
    refine tk 15 J4 (λx jS=>by go_simp<;>rfl) jH ?_
    try simp only [zS]
    refine tk 16 J3 (λx jS=>by have k0:=AB jS y0;have k1:=AB jS y1;have k2:=AB jS x1;go_simp<;>rfl) jH ?_
    try simp only [zS]
    refine rd 17 J2 (λK hK=>?_);go_simp;refine(R1 _ _ _ C _ _ ((hCr.take (Nat.le_of_lt hlt)).later jH) (by omega)).mono ?_;rintro e w5 ⟨q,rfl,hqq,hb5⟩;rw [hc] at hqq;replace hqq:=hqq.2 rfl;refine hK.out _ _ (AA jH hb5) (λjH=>?_);clear hK K;try simp only [zS]
    refine tk 18 J1 (λx jS=>by go_simp<;>rfl) jH ?_
    try simp only [zS]
    refine tk 19 J0 (λx jS=>by go_simp<;>rfl) jH ?_
    try simp only [zS]
    refine XW (by kernel_rfl) ?_ _;go_wp2;go_ret
    exact⟨AM (by rw [HT.out,Ae (p:=BS C) hlt (by unfold BS;rw [hc];simp)];rfl),AA B2 (AA B3 jH)⟩
  ·
   obtain rfl:n=k:=by omega
   replace HT:Hid (BZ s n C r m R=Aw r (A9 n C m R)):=by
    show _=_
    rw [HT.out,Az hall];rfl
   have a1:=AB hb d1;have a2:=AB hb d2;clear d1 d2;go_wp2;obtain⟨wo,rfl⟩:∃ wo:ο,wo=wr:=⟨_,rfl⟩;go_loopw [58] (λi wr=>∃ k:Nat,k<=r/\i=ι κ k/\(∀ j,j<k->A9 n C m R j=true)/\υ wo.heap.size wo wr) (λi _=>r - (XX i).toNat)
   case atStart=>exact⟨0,by omega,rfl,λj hj=>by omega,Xa _ _⟩
   case round=>
    obtain⟨k,hk2,rfl,hall2,hb2⟩:=hrel;have B4:=AA B2 hb2;by_cases hlt:k<r
    ·
     obtain⟨b1,o1,i1,k1,ea,f0,di,dm⟩:=hR.later B4 k hlt;subst ea;have a3:=AB hb2 a1;by_cases hmn:m k=n
     rotate_left
     ·
      have hmn':((m k:Int) == (n:Int))=false:=by simp;omega
      go_wp2;go_ret
      exact⟨AM (by rw [HT.out,Ae (p:=A9 n C m R) hlt (by unfold A9;rw [decide_eq_false hmn];rfl)]),B4⟩
     have hmn':((m k:Int) == (n:Int))=true:=by simp;omega
     go_wp2;obtain⟨wp,rfl⟩:∃ wp:ο,wp=wr:=⟨_,rfl⟩;go_loopw [71] (λi wr=>∃ j:Nat,j<=m k/\i=ι κ j/\(∀ q,q<j->BU (R k q).o (R k q).m (R k q).s (C q).t=true)/\υ wp.heap.size wp wr) (λi _=>m k - (XX i).toNat)
     case atStart=>exact⟨0,by omega,rfl,λj hj=>by omega,Xa _ _⟩
     case round=>
      obtain⟨j,hj,rfl,hall3,hb3⟩:=hrel;have B5:=AA B4 hb3;by_cases hlj:j<m k
      ·
       obtain⟨bv,ov,ei,v0,v1,v2,hs⟩:=di.later hb3 j hlj;subst ei;obtain⟨b,off,ec,e0,e1,-⟩:=hC.later B5 j (by omega);subst ec;have hR2:=η wr (γ #[ι κ (R k j).o,ι κ (R k j).m,τ (R k j).s] 94);have y0:(wr.alloc (γ #[ι κ (R k j).o,ι κ (R k j).m,τ (R k j).s] 94)).cell? ⟨wr.heap.size,0,ν⟩=ς (ι κ (R k j).o):=(ε _ _ 0 _ _ _ hR2).trans rfl;have y1:(wr.alloc (γ #[ι κ (R k j).o,ι κ (R k j).m,τ (R k j).s] 94)).cell? ⟨wr.heap.size,1,ν⟩=ς (ι κ (R k j).m):=(ε _ _ 1 _ _ _ hR2).trans rfl;have y2:(wr.alloc (γ #[ι κ (R k j).o,ι κ (R k j).m,τ (R k j).s] 94)).cell? ⟨wr.heap.size,2,ν⟩=ς (τ (R k j).s):=(ε _ _ 2 _ _ _ hR2).trans rfl;clear hR2;have B6:=AE wr (γ #[ι κ (R k j).o,ι κ (R k j).m,τ (R k j).s] 94);have x1:=AB B6 (AB hb3 a3);have z1:=AB B6 e1;have i1:(0:Int)<=(j:Int):=by omega
       have i2:(j:Int)<(n:Int):=by omega
       rcases hv:BU (R k j).o (R k j).m (R k j).s (C j).t
       ·
        go_wp2;refine XO (S:=λx=>υ (wr.alloc (γ #[ι κ (R k j).o,ι κ (R k j).m,τ (R k j).s] 94)).heap.size (wr.alloc (γ #[ι κ (R k j).o,ι κ (R k j).m,τ (R k j).s] 94)) x) (by kernel_rfl) (BC _) (λjH=>?_);refine tk 0 RP (λx jS=>by have k0:=AB jS y0;have k1:=AB jS y1;have k2:=AB jS y2;have k3:=AB jS x1;have k4:=AB jS z1;go_simp<;>rfl) jH ?_
        try simp only [zS]
        refine tk 1 RN (λx jS=>by go_simp<;>rfl) jH ?_
        try simp only [zS]
        refine tk 2 RM (λx jS=>by have k0:=AB jS y0;have k1:=AB jS y1;have k2:=AB jS y2;have k3:=AB jS x1;have k4:=AB jS z1;go_simp<;>rfl) jH ?_
        try simp only [zS]
        refine tk 3 RL (λx jS=>by go_simp<;>rfl) jH ?_
        try simp only [zS]
        refine tk 4 RK (v:=ψ (ς ⟨b,off+j * 2,ν⟩)) (λx jS=>by go_simp<;>rfl) jH ?_
        try simp only [zS]
        refine tk 5 RJ (v:=ψ (ς ⟨b,off+j * 2+1,ν⟩)) (λx jS=>by go_simp<;>rfl) jH ?_
        try simp only [zS]
        refine tk 6 RI (λx jS=>by have k0:=AB jS y0;have k1:=AB jS y1;have k2:=AB jS y2;have k3:=AB jS x1;have k4:=AB jS z1;go_simp<;>rfl) jH ?_
        try simp only [zS]
        refine rd 7 RH (λK hK=>?_);go_simp;refine(Lg _ _ _ _ _ hs).mono ?_;rw [hv];rintro e w6 ⟨rfl,hb6⟩;refine hK.out _ _ (AA jH hb6) (λjH=>?_);clear hK K;try simp only [zS]
        refine tk 8 RF (λx jS=>by go_simp<;>rfl) jH ?_
        try simp only [zS]
        refine XW (by kernel_rfl) ?_ _;go_wp2;go_ret
        exact⟨AM (by rw [HT.out,Ae (p:=A9 n C m R) hlt (by unfold A9;rw [Ae (p:=λj=>BU (R k j).o (R k j).m (R k j).s (C j).t) hlj hv];simp)]),AA B5 (AA B6 jH)⟩
       ·
        go_wp2;refine XO (S:=λx=>υ (wr.alloc (γ #[ι κ (R k j).o,ι κ (R k j).m,τ (R k j).s] 94)).heap.size (wr.alloc (γ #[ι κ (R k j).o,ι κ (R k j).m,τ (R k j).s] 94)) x) (by kernel_rfl) (BC _) (λjH=>?_);refine tk 0 RP (λx jS=>by have k0:=AB jS y0;have k1:=AB jS y1;have k2:=AB jS y2;have k3:=AB jS x1;have k4:=AB jS z1;go_simp<;>rfl) jH ?_
        try simp only [zS]
        refine tk 1 RN (λx jS=>by go_simp<;>rfl) jH ?_
        try simp only [zS]
        refine tk 2 RM (λx jS=>by have k0:=AB jS y0;have k1:=AB jS y1;have k2:=AB jS y2;have k3:=AB jS x1;have k4:=AB jS z1;go_simp<;>rfl) jH ?_
        try simp only [zS]
        refine tk 3 RL (λx jS=>by go_simp<;>rfl) jH ?_
        try simp only [zS]
        refine tk 4 RK (v:=ψ (ς ⟨b,off+j * 2,ν⟩)) (λx jS=>by go_simp<;>rfl) jH ?_
        try simp only [zS]
        refine tk 5 RJ (v:=ψ (ς ⟨b,off+j * 2+1,ν⟩)) (λx jS=>by go_simp<;>rfl) jH ?_
        try simp only [zS]
        refine tk 6 RI (λx jS=>by have k0:=AB jS y0;have k1:=AB jS y1;have k2:=AB jS y2;have k3:=AB jS x1;have k4:=AB jS z1;go_simp<;>rfl) jH ?_
        try simp only [zS]
        refine rd 7 RH (λK hK=>?_);go_simp;refine(Lg _ _ _ _ _ hs).mono ?_;rw [hv];rintro e w6 ⟨rfl,hb6⟩;refine hK.out _ _ (AA jH hb6) (λjH=>?_);clear hK K;try simp only [zS]
        refine tk 8 RF (λx jS=>by go_simp<;>rfl) jH ?_
        try simp only [zS]
        refine XW (by kernel_rfl) ?_ _;go_wp2;go_roundw
        case rel=>exact⟨j+1,by omega,by go_num,λq hq=>by
         by_cases e:q=j
         · subst e;exact hv
         · exact hall3 q (by omega),AA hb3 (AA B6 jH)⟩
        case measure=>simp [XX];omega
      ·
       obtain rfl:j=m k:=by omega
       have HR3:A9 n C m R k=(decide (k=0) || Cv (R (k - 1) 0).m (R (k - 1) 0).s (R k 0).m (R k 0).s):=by
        unfold A9;rw [Az hall3,decide_eq_true hmn];rfl
       have HR4:Hid (A9 n C m R k=(decide (k=0) || Cv (R (k - 1) 0).m (R (k - 1) 0).s (R k 0).m (R k 0).s)):=HR3;clear HR3;have x2:=AB hb3 (AB hb2 a2);by_cases hk0:k=0
       ·
        subst hk0;go_wp2;refine XO (S:=λx=>υ wr.heap.size wr x) (by kernel_rfl) (BC _) (λjH=>?_);refine tk 0 MN (λx jS=>by go_simp<;>rfl) jH ?_
        try simp only [zS]
        refine tk 1 MM (λx jS=>by go_simp<;>rfl) jH ?_
        try simp only [zS]
        refine tk 2 ML (λx jS=>by go_simp<;>rfl) jH ?_
        try simp only [zS]
        refine Ao 3 MK jH ?_;try simp only [zS]
        refine Ao 4 MJ jH ?_;try simp only [zS]
        refine Ao 5 MI jH ?_;try simp only [zS]
        refine Ao 6 MH jH ?_;try simp only [zS]
        refine Ao 7 MG jH ?_;try simp only [zS]
        refine Ao 8 MF jH ?_;try simp only [zS]
        refine Ao 9 ME jH ?_;try simp only [zS]
        refine Ao 10 MD jH ?_;try simp only [zS]
        refine Ao 11 MB jH ?_;try simp only [zS]
        refine Ao 12 MA jH ?_;try simp only [zS]
        refine Ao 13 L9 jH ?_;try simp only [zS]
        refine Ao 14 L8 jH ?_;try simp only [zS]
        refine Ao 15 L7 jH ?_;try simp only [zS]
        refine tk 16 L6 (λx jS=>by go_simp<;>rfl) jH ?_
        try simp only [zS]
        refine XW (by kernel_rfl) ?_ _;go_wp2;go_roundw
        case rel=>exact⟨0+1,by omega,by go_num,λj hj=>by
         obtain rfl:j=0:=by omega
         rw [HR4.out];rfl,AA hb2 (AA hb3 jH)⟩
        case measure=>simp [XX];omega
       obtain⟨p,rfl⟩:∃ p,k=p+1:=⟨k - 1,by omega⟩;obtain⟨b',o',ip,kp,e',g0,dp,-⟩:=hR.later B5 p (by omega);obtain⟨rfl,rfl⟩:b1=b'/\o1=o':=by simpa using e'
       have hmp:m p=n:=by
        have:=hall2 p (by omega);unfold A9 at this;rw [XV,XV,decide_eq_true_eq] at this;exact this.1.1
       obtain⟨b2,o2,ep,p0,p1,p2,-⟩:=dp 0 (by omega);subst ep;obtain⟨b3,o3,eq,q0,q1,q2,-⟩:=di.later hb3 0 (by omega);subst eq;have i0:(0:Int)<=(p:Int):=by omega
       have i1:(p:Int)<(r:Int):=by omega
       have i2:IntKind.i64.wrap (p:Int)=(p:Int):=by rw [IntKind.wrap_i64];omega
       have i3:(0:Int)<(m p:Int):=by omega
       have i4:(0:Int)<(m (p+1):Int):=by omega
       have i5:(0:Int)<(p:Int)+1:=by omega
       simp only [Nat.zero_mul,Xm] at p0 p1 p2 q0 q1 q2
       rcases hv:Cv (R p 0).m (R p 0).s (R (p+1) 0).m (R (p+1) 0).s
       ·
        go_wp2;refine XO (S:=λx=>υ wr.heap.size wr x) (by kernel_rfl) (BC _) (λjH=>?_);refine tk 0 MN (λx jS=>by go_simp<;>rfl) jH ?_
        try simp only [zS]
        refine tk 1 MM (λx jS=>by go_simp<;>rfl) jH ?_
        try simp only [zS]
        refine tk 2 ML (λx jS=>by go_simp<;>rfl) jH ?_
        try simp only [zS]
        refine tk 3 MK (λx jS=>by go_simp<;>rfl) jH ?_
        try simp only [zS]
        refine tk 4 MJ (λx jS=>by have k1:=AB jS x2;have k2:=AB jS g0;have k3:=AB jS p0;have k4:=AB jS p1;have k5:=AB jS p2;have k6:=AB jS q0;have k7:=AB jS q1;have k8:=AB jS q2;go_simp<;>rfl) jH ?_
        try simp only [zS]
        refine tk 5 MI (λx jS=>by go_simp<;>rfl) jH ?_
        try simp only [zS]
        refine tk 6 MH (v:=ι κ (p:Int)) (λx jS=>by go_simp<;>rfl) jH ?_
        try simp only [zS]
        refine tk 7 MG (v:=ψ (ς ⟨b1,o1+p,ν⟩)) (λx jS=>by go_simp<;>rfl) jH ?_
        try simp only [zS]
        refine tk 8 MF (λx jS=>by have k1:=AB jS x2;have k2:=AB jS g0;have k3:=AB jS p0;have k4:=AB jS p1;have k5:=AB jS p2;have k6:=AB jS q0;have k7:=AB jS q1;have k8:=AB jS q2;go_simp<;>rfl) jH ?_
        try simp only [zS]
        refine tk 9 ME (v:=ψ (ς ⟨b2,o2,ν⟩)) (λx jS=>by go_simp<;>rfl) jH ?_
        try simp only [zS]
        refine tk 10 MD (λx jS=>by have k1:=AB jS x2;have k2:=AB jS g0;have k3:=AB jS p0;have k4:=AB jS p1;have k5:=AB jS p2;have k6:=AB jS q0;have k7:=AB jS q1;have k8:=AB jS q2;go_simp<;>rfl) jH ?_
        try simp only [zS]
        refine tk 11 MB (λx jS=>by go_simp<;>rfl) jH ?_
        try simp only [zS]
        refine tk 12 MA (v:=ψ (ς ⟨b3,o3,ν⟩)) (λx jS=>by go_simp<;>rfl) jH ?_
        try simp only [zS]
        refine tk 13 L9 (λx jS=>by have k1:=AB jS x2;have k2:=AB jS g0;have k3:=AB jS p0;have k4:=AB jS p1;have k5:=AB jS p2;have k6:=AB jS q0;have k7:=AB jS q1;have k8:=AB jS q2;go_simp<;>rfl) jH ?_
        try simp only [zS]
        refine rd 14 L8 (λK hK=>?_);go_simp;refine(IG _ _ _ _ _ _ _).mono ?_;rintro e w7 ⟨y,rfl,hqq,hb7⟩;rw [hv] at hqq;replace hqq:=hqq.2 rfl;refine hK.out _ _ (AA jH hb7) (λjH=>?_);clear hK K;try simp only [zS]
        refine tk 15 L7 (λx jS=>by go_simp<;>rfl) jH ?_
        try simp only [zS]
        refine tk 16 L6 (λx jS=>by go_simp<;>rfl) jH ?_
        try simp only [zS]
        refine XW (by kernel_rfl) ?_ _;go_wp2;go_ret
        exact⟨AM (by rw [HT.out,Ae (p:=A9 n C m R) hlt (by rw [HR4.out,Nat.add_sub_cancel,hv];simp)]),AA B5 jH⟩
       ·
        go_wp2;refine XO (S:=λx=>υ wr.heap.size wr x) (by kernel_rfl) (BC _) (λjH=>?_);refine tk 0 MN (λx jS=>by go_simp<;>rfl) jH ?_
        try simp only [zS]
        refine tk 1 MM (λx jS=>by go_simp<;>rfl) jH ?_
        try simp only [zS]
        refine tk 2 ML (λx jS=>by go_simp<;>rfl) jH ?_
        try simp only [zS]
        refine tk 3 MK (λx jS=>by go_simp<;>rfl) jH ?_
        try simp only [zS]
        refine tk 4 MJ (λx jS=>by have k1:=AB jS x2;have k2:=AB jS g0;have k3:=AB jS p0;have k4:=AB jS p1;have k5:=AB jS p2;have k6:=AB jS q0;have k7:=AB jS q1;have k8:=AB jS q2;go_simp<;>rfl) jH ?_
        try simp only [zS]
        refine tk 5 MI (λx jS=>by go_simp<;>rfl) jH ?_
        try simp only [zS]
        refine tk 6 MH (v:=ι κ (p:Int)) (λx jS=>by go_simp<;>rfl) jH ?_
        try simp only [zS]
        refine tk 7 MG (v:=ψ (ς ⟨b1,o1+p,ν⟩)) (λx jS=>by go_simp<;>rfl) jH ?_
        try simp only [zS]
        refine tk 8 MF (λx jS=>by have k1:=AB jS x2;have k2:=AB jS g0;have k3:=AB jS p0;have k4:=AB jS p1;have k5:=AB jS p2;have k6:=AB jS q0;have k7:=AB jS q1;have k8:=AB jS q2;go_simp<;>rfl) jH ?_
        try simp only [zS]
        refine tk 9 ME (v:=ψ (ς ⟨b2,o2,ν⟩)) (λx jS=>by go_simp<;>rfl) jH ?_
        try simp only [zS]
        refine tk 10 MD (λx jS=>by have k1:=AB jS x2;have k2:=AB jS g0;have k3:=AB jS p0;have k4:=AB jS p1;have k5:=AB jS p2;have k6:=AB jS q0;have k7:=AB jS q1;have k8:=AB jS q2;go_simp<;>rfl) jH ?_
        try simp only [zS]
        refine tk 11 MB (λx jS=>by go_simp<;>rfl) jH ?_
        try simp only [zS]
        refine tk 12 MA (v:=ψ (ς ⟨b3,o3,ν⟩)) (λx jS=>by go_simp<;>rfl) jH ?_
        try simp only [zS]
        refine tk 13 L9 (λx jS=>by have k1:=AB jS x2;have k2:=AB jS g0;have k3:=AB jS p0;have k4:=AB jS p1;have k5:=AB jS p2;have k6:=AB jS q0;have k7:=AB jS q1;have k8:=AB jS q2;go_simp<;>rfl) jH ?_
        try simp only [zS]
        refine rd 14 L8 (λK hK=>?_);go_simp;refine(IG _ _ _ _ _ _ _).mono ?_;rintro e w7 ⟨y,rfl,hqq,hb7⟩;rw [hv] at hqq;replace hqq:=show ¬(0:Int)<=y from λhh=>(by cases hqq.1 hh)
        refine hK.out _ _ (AA jH hb7) (λjH=>?_);clear hK K;try simp only [zS]
        refine tk 15 L7 (λx jS=>by go_simp<;>rfl) jH ?_
        try simp only [zS]
        refine tk 16 L6 (λx jS=>by go_simp<;>rfl) jH ?_
        try simp only [zS]
        refine XW (by kernel_rfl) ?_ _;go_wp2;go_roundw
        case rel=>exact⟨p+1+1,by omega,by go_num,λj hj=>by
         by_cases e:j=p+1
         · subst e;rw [HR4.out,Nat.add_sub_cancel,hv];simp
         · exact hall2 j (by omega),AA hb2 (AA hb3 jH)⟩
        case measure=>simp [XX];omega
    ·
     obtain rfl:k=r:=by omega
     go_wp2;go_ret
     exact⟨AM (by rw [HT.out,Az hall2]),B4⟩
theorem C7{n:Nat}{p:Nat->Bool}:Aw n p=true↔∀ j,j<n->p j=true:=by
 refine⟨λh j hj=>?_,Az⟩;rcases hq:p j
 · rw [Ae hj hq] at h;cases h
 · rfl
def Hz(o m:Int)(s:ByteArray):Bool:=Ap o m s || (o == 1 && decide (s.size=0))
def FO(m:Nat)(I:Nat->Itm)(n:Nat)(C:Nat->Clm):Bool:=Aw m (λj=>Hz (I j).o (I j).m (I j).s) && Bz m n I C
def Fo(C:Nat->Clm)(r:Nat)(R:Nat->Nat->Itm):Bool:=if (C 0).t == 1 then Aw r (N8 R) else Aw r (N7 R)
def Dp(s:ByteArray)(n:Nat)(C:Nat->Clm)(r:Nat)(m:Nat->Nat)(R:Nat->Nat->Itm):Bool:=
 AV s && (Bb n 1 20 && Aw n (λj=>Bx (C j).s (C j).t)) && FE C n && decide (r<=1000) && Aw r (λi=>FO (m i) (R i) n C) && Fo C r R
theorem M7{a b:ByteArray}(h:b.size=0):Xh a.toList b.toList=false:=by
 rw [(BY b).2 h];cases a.toList <;> rfl
theorem E4{o m:Int}{s:ByteArray}{t:Int}(ht:DR t=true):BU o m s t=(Hz o m s && o == t):=by
 unfold DR at ht;simp only [Bool.or_eq_true,beq_iff_eq] at ht
 unfold BU Hz Ap;rcases ht with rfl | rfl
 ·
  by_cases e:o=1
  · subst e;rcases hs:decide (s.size=0) <;> rcases hm:C2 m <;> simp
  ·
   rw [show (o == 1)=false from by simpa using e]
   simp
 ·
  by_cases e:o=2
  · subst e;simp
  ·
   rw [show (o == 2)=false from by simpa using e]
   simp
theorem Li{n:Nat}{C:Nat->Clm}{r:Nat}{m:Nat->Nat}{R:Nat->Nat->Itm}(h0:0<n)(hT:∀ j,j<n->DR (C j).t=true) :
 Aw r (A9 n C m R)=(Aw r (λi=>FO (m i) (R i) n C) && Fo C r R):=by
 rw [Bool.eq_iff_iff];simp only [XV,C7]
 have key:∀ i,(FO (m i) (R i) n C=true↔m i=n/\∀ j,j<m i->BU (R i j).o (R i j).m (R i j).s (C j).t=true):=λi=>by
  unfold FO Bz;simp only [XV,C7,decide_eq_true_eq]
  constructor
  · rintro ⟨h1,h2,h3⟩;refine⟨h2,λj hj=>?_⟩;rw [E4 (hT j (by omega)),h1 j hj,h3 j hj];rfl
  ·
   rintro ⟨h2,h1⟩;refine⟨λj hj=>?_,h2,λj hj=>?_⟩
   · have:=h1 j hj;rw [E4 (hT j (by omega)),XV] at this;exact this.1
   · have:=h1 j hj;rw [E4 (hT j (by omega)),XV] at this;exact this.2
 have ord:(∀ i,i<r->m i=n/\∀ j,j<m i->BU (R i j).o (R i j).m (R i j).s (C j).t=true)->∀ i,i<r ->
  ((decide (i=0) || Cv (R (i - 1) 0).m (R (i - 1) 0).s (R i 0).m (R i 0).s)=if (C 0).t == 1 then N8 R i else N7 R i):=λhall i hi=>by
  by_cases e:i=0
  · subst e;simp [N8,N7]
  ·
   obtain⟨a1,a2⟩:=hall i hi;obtain⟨b1,b2⟩:=hall (i - 1) (by omega);have a3:=a2 0 (by omega);have b3:=b2 0 (by omega);have ht:=hT 0 h0;unfold DR at ht;simp only [Bool.or_eq_true,beq_iff_eq] at ht
   unfold N8 N7 Cv;rw [decide_eq_false e,Bool.false_or,Bool.false_or,Bool.false_or];rcases ht with ht | ht
   ·
    rw [ht] at a3 b3 ⊢;unfold BU at a3 b3;simp at a3 b3
    rw [M7 (by rw [a3.2];rfl)];simp
   ·
    rw [ht] at a3 b3 ⊢;unfold BU at a3 b3;simp at a3 b3
    rw [a3.2.1,b3.2.1];simp
 have hrow:∀ i,(A9 n C m R i=true↔(m i=n/\∀ j,j<m i->BU (R i j).o (R i j).m (R i j).s (C j).t=true)/\(decide (i=0) || Cv (R (i - 1) 0).m (R (i - 1) 0).s (R i 0).m (R i 0).s)=true):=λi=>by
  unfold A9;rw [XV,XV,decide_eq_true_eq,C7]
 have hsort:Fo C r R=true↔∀ i,i<r->(if (C 0).t == 1 then N8 R i else N7 R i)=true:=by
  unfold Fo;split
  · rw [C7]
  · rw [C7]
 rw [hsort];constructor
 · intro h;have h1:∀ i,i<r->m i=n/\∀ j,j<m i->BU (R i j).o (R i j).m (R i j).s (C j).t=true:=λi hi=>((hrow i).1 (h i hi)).1;exact⟨λi hi=>(key i).2 (h1 i hi),λi hi=>by rw [←ord h1 i hi];exact((hrow i).1 (h i hi)).2⟩
 · rintro ⟨h1,h2⟩ i hi;have h3:∀ i,i<r->m i=n/\∀ j,j<m i->BU (R i j).o (R i j).m (R i j).s (C j).t=true:=λi hi=>(key i).1 (h1 i hi);exact(hrow i).2 ⟨h3 i hi,by rw [ord h3 i hi];exact h2 i hi⟩
theorem Np(C:Nat->Clm)(n:Nat):Aw n (BS C)=(Aw n (λj=>Bx (C j).s (C j).t) && FE C n):=by
 unfold FE;rw [Bool.eq_iff_iff];simp only [XV,C7]
 constructor
 ·
  intro h;refine⟨λj hj=>?_,λj hj=>?_⟩
  · have:=h j hj;unfold BS at this;rw [XV] at this;exact this.1
  · have:=h j hj;unfold BS at this;rw [XV] at this;exact this.2
 · rintro ⟨h1,h2⟩ j hj;unfold BS;rw [XV];exact⟨h1 j hj,h2 j hj⟩
theorem JP(s:ByteArray)(n:Nat)(C:Nat->Clm)(r:Nat)(m:Nat->Nat)(R:Nat->Nat->Itm):Dp s n C r m R=BZ s n C r m R:=by
 unfold Dp BZ;rw [Np];rcases h1:AV s
 · rfl
 rcases h2:Bb (n:Int) 1 20
 · rfl
 rcases h3:Aw n (λj=>Bx (C j).s (C j).t)
 · simp
 rcases h4:FE C n
 · simp
 have h0:0<n:=by
  unfold Bb at h2;simp at h2
  omega
 rw [Li h0 (λj hj=>by
  have:=C7.1 h3 j hj;unfold Bx at this;rw [XV] at this;exact this.2)]
 rcases decide (r<=1000) <;> simp
