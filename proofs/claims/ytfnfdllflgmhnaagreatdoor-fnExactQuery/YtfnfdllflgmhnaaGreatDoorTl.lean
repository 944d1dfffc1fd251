import Derived.Test.YtfnfdllflgmhnaaGreatDoorRl
import Derived.Test.YtfnfdllflgmhnaaGreatDoorTj
import Derived.Deep.RegionHeld3
import Derived.Maps.OwnSet
open Array renaming getElem?_eq_some_iff → XS
open Go renaming Calls → XR, World → ο, wpAnyH_done → XW, wp_region_held_drew → XO, bodyPost_ret → XL, cell_of_row → ε, frozen_of_row → ζ, heap_alloc_new → η, heap_setCell_same → π, results_cell_row → Xd
open Go.Ending renaming returned → ρ
open Go.Ground renaming data → φ
open Go.IntKind renaming i64 → κ
open Go.Op renaming bytesLess → Xh
open Go.Operand renaming tmp → δ
open Go.Proofs.Tryz renaming prog → μ
open Go.RowKit renaming Below → υ, intOf → XX
open Go.RowKit.Below renaming refl → Xa
open Go.Value renaming bool → β, int → ι, pointer → ψ, slice → σ, agg → χ
open Nat renaming le_refl → XK
open Option renaming none → ν, some → ς
open Or renaming inl → Xc, inr → Xi
namespace Go.Proofs.YtfnfdllflgmhnaaGreatDoor
open Go.RowKit Go.Maps Go.WideMaps
set_option maxRecDepth 20000
set_option maxHeartbeats 4000000
abbrev VK:Oper:=⟨ς 12,.move (δ 1),167,"l5_replay.go:108",#[],ν⟩
abbrev VJ:Oper:=⟨ς 13,.move (δ 0),43,"l5_replay.go:108",#[],ν⟩
abbrev Kt:Oper:=⟨ς 14,.move (δ 5),3,"l5_replay.go:108",#[],ν⟩
abbrev Ks:Oper:=⟨ς 15,.binOp .sub 3 (δ 14) (.const (ι κ 1)) 3,3,"l5_replay.go:108",#[⟨2,φ⟩],ν⟩
abbrev VI:Oper:=⟨ς 16,.indexAddr 43 (δ 13) (δ 15),0,"l5_replay.go:108",#[⟨1,φ⟩,⟨3,φ⟩],ν⟩
abbrev VH:Oper:=⟨ς 17,.load 100 (δ 16),100,"l5_replay.go:108",#[⟨4,φ⟩],ν⟩
abbrev VG:Oper:=⟨ς 19,.move (δ 1),167,"l5_replay.go:108",#[],ν⟩
abbrev VF:Oper:=⟨ς 20,.move (δ 0),43,"l5_replay.go:108",#[],ν⟩
abbrev Kr:Oper:=⟨ς 21,.move (δ 5),3,"l5_replay.go:108",#[],ν⟩
abbrev VE:Oper:=⟨ς 22,.indexAddr 43 (δ 20) (δ 21),0,"l5_replay.go:108",#[⟨8,φ⟩,⟨9,φ⟩],ν⟩
abbrev RE:Oper:=⟨ς 23,.load 100 (δ 22),100,"l5_replay.go:108",#[⟨10,φ⟩],ν⟩
abbrev RC:Oper:=⟨ς 18,.call ⟨.value (δ 12),#[δ 17],#[100]⟩,9,"l5_replay.go:108",#[⟨0,φ⟩,⟨5,φ⟩],ν⟩
abbrev RB:Oper:=⟨ς 24,.call ⟨.value (δ 19),#[δ 23],#[100]⟩,9,"l5_replay.go:108",#[⟨7,φ⟩,⟨11,φ⟩,⟨6,.chain⟩],ν⟩
abbrev Jz:Oper:=⟨ς 25,.call ⟨.value (.func 153),#[δ 18,δ 24],#[9,9]⟩,4,"l5_replay.go:108",#[⟨6,φ⟩,⟨12,φ⟩,⟨12,.chain⟩],ν⟩
abbrev GZ:Oper:=⟨ς 26,.unOp .not 4 (δ 25),4,"l5_replay.go:108",#[⟨13,φ⟩],ν⟩
abbrev RA:Oper:=⟨ς 12,.move (δ 1),180,"l5_replay.go:108",#[],ν⟩
abbrev Jy:Oper:=⟨ς 13,.move (δ 0),36,"l5_replay.go:108",#[],ν⟩
abbrev Jx:Oper:=⟨ς 16,.indexAddr 36 (δ 13) (δ 15),0,"l5_replay.go:108",#[⟨1,φ⟩,⟨3,φ⟩],ν⟩
abbrev Jw:Oper:=⟨ς 17,.load 60 (δ 16),60,"l5_replay.go:108",#[⟨4,φ⟩],ν⟩
abbrev Q0:Oper:=⟨ς 19,.move (δ 1),180,"l5_replay.go:108",#[],ν⟩
abbrev Jv:Oper:=⟨ς 20,.move (δ 0),36,"l5_replay.go:108",#[],ν⟩
abbrev Ju:Oper:=⟨ς 22,.indexAddr 36 (δ 20) (δ 21),0,"l5_replay.go:108",#[⟨8,φ⟩,⟨9,φ⟩],ν⟩
abbrev Jt:Oper:=⟨ς 23,.load 60 (δ 22),60,"l5_replay.go:108",#[⟨10,φ⟩],ν⟩
abbrev Qz:Oper:=⟨ς 18,.call ⟨.value (δ 12),#[δ 17],#[60]⟩,3,"l5_replay.go:108",#[⟨0,φ⟩,⟨5,φ⟩],ν⟩
abbrev Qy:Oper:=⟨ς 24,.call ⟨.value (δ 19),#[δ 23],#[60]⟩,3,"l5_replay.go:108",#[⟨7,φ⟩,⟨11,φ⟩,⟨6,.chain⟩],ν⟩
abbrev Qx:Oper:=⟨ς 25,.call ⟨.value (.func 186),#[δ 18,δ 24],#[3,3]⟩,4,"l5_replay.go:108",#[⟨6,φ⟩,⟨12,φ⟩,⟨12,.chain⟩],ν⟩
abbrev Qw:Oper:=⟨ς 12,.move (δ 1),217,"l5_replay.go:108",#[],ν⟩
abbrev Qv:Oper:=⟨ς 19,.move (δ 1),217,"l5_replay.go:108",#[],ν⟩
abbrev Qu:Oper:=⟨ς 18,.call ⟨.value (δ 12),#[δ 17],#[60]⟩,9,"l5_replay.go:108",#[⟨0,φ⟩,⟨5,φ⟩],ν⟩
abbrev Qt:Oper:=⟨ς 24,.call ⟨.value (δ 19),#[δ 23],#[60]⟩,9,"l5_replay.go:108",#[⟨7,φ⟩,⟨11,φ⟩,⟨6,.chain⟩],ν⟩
def LL(T:Nat->Td)(k:Nat):Bool:=decide (k=0) || Xh (T (k - 1)).s.toList (T k).s.toList
def N8(R:Nat->Nat->Itm)(k:Nat):Bool:=decide (k=0) || decide ((R (k - 1) 0).m<(R k 0).m)
def N7(R:Nat->Nat->Itm)(k:Nat):Bool:=decide (k=0) || Xh (R (k - 1) 0).s.toList (R k 0).s.toList
theorem TK(a:Option Addr)(n c:Nat)(T:Nat->Td)(w:ο)(h:TL w a n T)(hn:n<=1048576):XR μ 105 #[σ a n c,.func (.func 106) #[] #[]] w λe w'=>e=ρ (β (Aw n (LL T)))/\υ w.heap.size w w':=by
 have hb0:=Xa w.heap.size w;go_enter Tryz.func105,Tryz.ntmps105
 go_wp2;go_loopw [5] (λi wr=>∃ p:Nat,(p=0∨p<n)/\i=ι κ (p+1:Nat)/\(∀ j,j<p+1->LL T j=true)/\υ w.heap.size w wr) (λi _=>n - (XX i).toNat)
 case atStart=>exact⟨0,Xc rfl,rfl,λj hj=>by
  obtain rfl:j=0:=by omega
  rfl,hb0⟩
 case round=>
  obtain⟨p,hk,rfl,hall,hb⟩:=hrel;by_cases hlt:p+1<n
  ·
   obtain⟨b,off,ac,cc,ar,cr,rfl,c0,c1,c2,-,-,-⟩:=h.later hb (p+1) hlt;obtain⟨b',off',ac',cc',ar',cr',e',f0,f1,f2,-,-,-⟩:=h.later hb p (by omega);obtain⟨rfl,rfl⟩:b=b'/\off=off':=by simpa using e'
   have i0:(0:Int)<=(p:Int):=by omega
   have i1:(p:Int)<(n:Int):=by omega
   have i3:(0:Int)<=(p:Int)+1:=by omega
   have i4:(p:Int)+1<(n:Int):=by omega
   have i2:IntKind.i64.wrap (p:Int)=(p:Int):=by rw [IntKind.wrap_i64];omega
   rcases h7:Xh (T p).s.toList (T (p+1)).s.toList
   ·
    go_wp2;refine XO (S:=λx=>υ wr.heap.size wr x) (by kernel_rfl) (BC _) (λjH=>?_);refine tk 0 VK (λx jS=>by go_simp<;>rfl) jH ?_
    try simp only [zS]
    refine tk 1 VJ (λx jS=>by go_simp<;>rfl) jH ?_
    try simp only [zS]
    refine tk 2 Kt (λx jS=>by go_simp<;>rfl) jH ?_
    try simp only [zS]
    refine tk 3 Ks (v:=ι κ (p:Int)) (λx jS=>by go_simp<;>rfl) jH ?_
    try simp only [zS]
    refine tk 4 VI (v:=ψ (ς ⟨b,off+p * 3,ν⟩)) (λx jS=>by go_simp<;>rfl) jH ?_
    try simp only [zS]
    refine tk 5 VH (λx jS=>by have k0:=AB jS c0;have k1:=AB jS c1;have k2:=AB jS c2;have k3:=AB jS f0;have k4:=AB jS f1;have k5:=AB jS f2;go_simp<;>rfl) jH ?_
    try simp only [zS]
    refine tk 7 VG (λx jS=>by go_simp<;>rfl) jH ?_
    try simp only [zS]
    refine tk 8 VF (λx jS=>by go_simp<;>rfl) jH ?_
    try simp only [zS]
    refine tk 9 Kr (λx jS=>by go_simp<;>rfl) jH ?_
    try simp only [zS]
    refine tk 10 VE (λx jS=>by go_simp<;>rfl) jH ?_
    try simp only [zS]
    refine tk 11 RE (λx jS=>by have k0:=AB jS c0;have k1:=AB jS c1;have k2:=AB jS c2;have k3:=AB jS f0;have k4:=AB jS f1;have k5:=AB jS f2;go_simp<;>rfl) jH ?_
    try simp only [zS]
    refine rd 6 RC (λK hK=>?_);go_simp;refine(Em (T p).s _ _ _).mono ?_;rintro e w1 ⟨rfl,hb1⟩;refine hK.out _ _ (AA jH hb1) (λjH=>?_);clear hK K;try simp only [zS]
    refine rd 12 RB (λK hK=>?_);go_simp;refine(Em (T (p+1)).s _ _ _).mono ?_;rintro e w2 ⟨rfl,hb2⟩;refine hK.out _ _ (AA jH hb2) (λjH=>?_);clear hK K;try simp only [zS]
    refine rd 13 Jz (λK hK=>?_);go_simp;refine(Ew (T p).s (T (p+1)).s _).mono ?_;rw [h7];rintro e w3 ⟨rfl,rfl⟩;refine hK.out _ _ (jH) (λjH=>?_);clear hK K;try simp only [zS]
    refine tk 14 GZ (λx jS=>by go_simp<;>rfl) jH ?_
    try simp only [zS]
    refine XW (by kernel_rfl) ?_ _;go_wp2;go_ret
    exact⟨AM (Ae (p:=LL T) hlt (by unfold LL;rw [Nat.add_sub_cancel,h7];simp)).symm,AA hb jH⟩
   ·
    go_wp2;refine XO (S:=λx=>υ wr.heap.size wr x) (by kernel_rfl) (BC _) (λjH=>?_);refine tk 0 VK (λx jS=>by go_simp<;>rfl) jH ?_
    try simp only [zS]
    refine tk 1 VJ (λx jS=>by go_simp<;>rfl) jH ?_
    try simp only [zS]
    refine tk 2 Kt (λx jS=>by go_simp<;>rfl) jH ?_
    try simp only [zS]
    refine tk 3 Ks (v:=ι κ (p:Int)) (λx jS=>by go_simp<;>rfl) jH ?_
    try simp only [zS]
    refine tk 4 VI (v:=ψ (ς ⟨b,off+p * 3,ν⟩)) (λx jS=>by go_simp<;>rfl) jH ?_
    try simp only [zS]
    refine tk 5 VH (λx jS=>by have k0:=AB jS c0;have k1:=AB jS c1;have k2:=AB jS c2;have k3:=AB jS f0;have k4:=AB jS f1;have k5:=AB jS f2;go_simp<;>rfl) jH ?_
    try simp only [zS]
    refine tk 7 VG (λx jS=>by go_simp<;>rfl) jH ?_
    try simp only [zS]
    refine tk 8 VF (λx jS=>by go_simp<;>rfl) jH ?_
    try simp only [zS]
    refine tk 9 Kr (λx jS=>by go_simp<;>rfl) jH ?_
    try simp only [zS]
    refine tk 10 VE (λx jS=>by go_simp<;>rfl) jH ?_
    try simp only [zS]
    refine tk 11 RE (λx jS=>by have k0:=AB jS c0;have k1:=AB jS c1;have k2:=AB jS c2;have k3:=AB jS f0;have k4:=AB jS f1;have k5:=AB jS f2;go_simp<;>rfl) jH ?_
    try simp only [zS]
    refine rd 6 RC (λK hK=>?_);go_simp;refine(Em (T p).s _ _ _).mono ?_;rintro e w1 ⟨rfl,hb1⟩;refine hK.out _ _ (AA jH hb1) (λjH=>?_);clear hK K;try simp only [zS]
    refine rd 12 RB (λK hK=>?_);go_simp;refine(Em (T (p+1)).s _ _ _).mono ?_;rintro e w2 ⟨rfl,hb2⟩;refine hK.out _ _ (AA jH hb2) (λjH=>?_);clear hK K;try simp only [zS]
    refine rd 13 Jz (λK hK=>?_);go_simp;refine(Ew (T p).s (T (p+1)).s _).mono ?_;rw [h7];rintro e w3 ⟨rfl,rfl⟩;refine hK.out _ _ (jH) (λjH=>?_);clear hK K;try simp only [zS]
    refine tk 14 GZ (λx jS=>by go_simp<;>rfl) jH ?_
    try simp only [zS]
    refine XW (by kernel_rfl) ?_ _;go_wp2;go_roundw
    case rel=>exact⟨p+1,Xi hlt,by go_num,λj hj=>by
     by_cases e:j=p+1
     · subst e;unfold LL;rw [Nat.add_sub_cancel,h7];simp
     · exact hall j (by omega),AA hb jH⟩
    case measure=>simp [XX];omega
  ·
   go_wp2;go_ret
   exact⟨AM (Az λj hj=>hall j (by omega)).symm,hb⟩
theorem TJ(a:Option Addr)(n c:Nat)(m:Nat->Nat)(R:Nat->Nat->Itm)(w:ο)(h:OL w a n m R)(h0:∀ k,k<n->0<m k)(hn:n<=1048576):XR μ 149 #[σ a n c,.func (.func 150) #[] #[]] w λe w'=>e=ρ (β (Aw n (N8 R)))/\υ w.heap.size w w':=by
 have hb0:=Xa w.heap.size w;go_enter Tryz.func149,Tryz.ntmps149
 go_wp2;go_loopw [5] (λi wr=>∃ p:Nat,(p=0∨p<n)/\i=ι κ (p+1:Nat)/\(∀ j,j<p+1->N8 R j=true)/\υ w.heap.size w wr) (λi _=>n - (XX i).toNat)
 case atStart=>exact⟨0,Xc rfl,rfl,λj hj=>by
  obtain rfl:j=0:=by omega
  rfl,hb0⟩
 case round=>
  obtain⟨p,hk,rfl,hall,hb⟩:=hrel;by_cases hlt:p+1<n
  ·
   obtain⟨b,off,i1,c1,rfl,c0,g1,l1⟩:=h.later hb (p+1) hlt;obtain⟨b',off',i2,c2,e',f0,g2,l2⟩:=h.later hb p (by omega);have q1:=h0 (p+1) hlt;have q2:=h0 p (by omega);obtain⟨rfl,rfl⟩:b=b'/\off=off':=by simpa using e'
   have i0:(0:Int)<=(p:Int):=by omega
   have i1:(p:Int)<(n:Int):=by omega
   have i3:(0:Int)<=(p:Int)+1:=by omega
   have i4:(p:Int)+1<(n:Int):=by omega
   have i2:IntKind.i64.wrap (p:Int)=(p:Int):=by rw [IntKind.wrap_i64];omega
   rcases h7:decide ((R p 0).m<(R (p+1) 0).m)
   ·
    go_wp2;refine XO (S:=λx=>υ wr.heap.size wr x) (by kernel_rfl) (BC _) (λjH=>?_);refine tk 0 RA (λx jS=>by go_simp<;>rfl) jH ?_
    try simp only [zS]
    refine tk 1 Jy (λx jS=>by go_simp<;>rfl) jH ?_
    try simp only [zS]
    refine tk 2 Kt (λx jS=>by go_simp<;>rfl) jH ?_
    try simp only [zS]
    refine tk 3 Ks (v:=ι κ (p:Int)) (λx jS=>by go_simp<;>rfl) jH ?_
    try simp only [zS]
    refine tk 4 Jx (v:=ψ (ς ⟨b,off+p,ν⟩)) (λx jS=>by go_simp<;>rfl) jH ?_
    try simp only [zS]
    refine tk 5 Jw (λx jS=>by have k0:=AB jS c0;have k1:=AB jS f0;go_simp<;>rfl) jH ?_
    try simp only [zS]
    refine tk 7 Q0 (λx jS=>by go_simp<;>rfl) jH ?_
    try simp only [zS]
    refine tk 8 Jv (λx jS=>by go_simp<;>rfl) jH ?_
    try simp only [zS]
    refine tk 9 Kr (λx jS=>by go_simp<;>rfl) jH ?_
    try simp only [zS]
    refine tk 10 Ju (λx jS=>by go_simp<;>rfl) jH ?_
    try simp only [zS]
    refine tk 11 Jt (λx jS=>by have k0:=AB jS c0;have k1:=AB jS f0;go_simp<;>rfl) jH ?_
    try simp only [zS]
    refine rd 6 Qz (λK hK=>?_);go_simp;refine(Fc _ _ _ (R p) _ (g2.later jH) q2).mono ?_;rintro e w1 ⟨rfl,rfl⟩;refine hK.out _ _ (jH) (λjH=>?_);clear hK K;try simp only [zS]
    refine rd 12 Qy (λK hK=>?_);go_simp;refine(Fc _ _ _ (R (p+1)) _ (g1.later jH) q1).mono ?_;rintro e w2 ⟨rfl,rfl⟩;refine hK.out _ _ (jH) (λjH=>?_);clear hK K;try simp only [zS]
    refine rd 13 Qx (λK hK=>?_);go_simp;refine(F7 (R p 0).m (R (p+1) 0).m _).mono ?_;rw [h7];rintro e w3 ⟨rfl,rfl⟩;refine hK.out _ _ (jH) (λjH=>?_);clear hK K;try simp only [zS]
    refine tk 14 GZ (λx jS=>by go_simp<;>rfl) jH ?_
    try simp only [zS]
    refine XW (by kernel_rfl) ?_ _;go_wp2;go_ret
    exact⟨AM (Ae (p:=N8 R) hlt (by unfold N8;rw [Nat.add_sub_cancel,h7];simp)).symm,AA hb jH⟩
   ·
    go_wp2;refine XO (S:=λx=>υ wr.heap.size wr x) (by kernel_rfl) (BC _) (λjH=>?_);refine tk 0 RA (λx jS=>by go_simp<;>rfl) jH ?_
    try simp only [zS]
    refine tk 1 Jy (λx jS=>by go_simp<;>rfl) jH ?_
    try simp only [zS]
    refine tk 2 Kt (λx jS=>by go_simp<;>rfl) jH ?_
    try simp only [zS]
    refine tk 3 Ks (v:=ι κ (p:Int)) (λx jS=>by go_simp<;>rfl) jH ?_
    try simp only [zS]
    refine tk 4 Jx (v:=ψ (ς ⟨b,off+p,ν⟩)) (λx jS=>by go_simp<;>rfl) jH ?_
    try simp only [zS]
    refine tk 5 Jw (λx jS=>by have k0:=AB jS c0;have k1:=AB jS f0;go_simp<;>rfl) jH ?_
    try simp only [zS]
    refine tk 7 Q0 (λx jS=>by go_simp<;>rfl) jH ?_
    try simp only [zS]
    refine tk 8 Jv (λx jS=>by go_simp<;>rfl) jH ?_
    try simp only [zS]
    refine tk 9 Kr (λx jS=>by go_simp<;>rfl) jH ?_
    try simp only [zS]
    refine tk 10 Ju (λx jS=>by go_simp<;>rfl) jH ?_
    try simp only [zS]
    refine tk 11 Jt (λx jS=>by have k0:=AB jS c0;have k1:=AB jS f0;go_simp<;>rfl) jH ?_
    try simp only [zS]
    refine rd 6 Qz (λK hK=>?_);go_simp;refine(Fc _ _ _ (R p) _ (g2.later jH) q2).mono ?_;rintro e w1 ⟨rfl,rfl⟩;refine hK.out _ _ (jH) (λjH=>?_);clear hK K;try simp only [zS]
    refine rd 12 Qy (λK hK=>?_);go_simp;refine(Fc _ _ _ (R (p+1)) _ (g1.later jH) q1).mono ?_;rintro e w2 ⟨rfl,rfl⟩;refine hK.out _ _ (jH) (λjH=>?_);clear hK K;try simp only [zS]
    refine rd 13 Qx (λK hK=>?_);go_simp;refine(F7 (R p 0).m (R (p+1) 0).m _).mono ?_;rw [h7];rintro e w3 ⟨rfl,rfl⟩;refine hK.out _ _ (jH) (λjH=>?_);clear hK K;try simp only [zS]
    refine tk 14 GZ (λx jS=>by go_simp<;>rfl) jH ?_
    try simp only [zS]
    refine XW (by kernel_rfl) ?_ _;go_wp2;go_roundw
    case rel=>exact⟨p+1,Xi hlt,by go_num,λj hj=>by
     by_cases e:j=p+1
     · subst e;unfold N8;rw [Nat.add_sub_cancel,h7];simp
     · exact hall j (by omega),AA hb jH⟩
    case measure=>simp [XX];omega
  ·
   go_wp2;go_ret
   exact⟨AM (Az λj hj=>hall j (by omega)).symm,hb⟩
theorem TI(a:Option Addr)(n c:Nat)(m:Nat->Nat)(R:Nat->Nat->Itm)(w:ο)(h:OL w a n m R)(h0:∀ k,k<n->0<m k)(hn:n<=1048576):XR μ 151 #[σ a n c,.func (.func 152) #[] #[]] w λe w'=>e=ρ (β (Aw n (N7 R)))/\υ w.heap.size w w':=by
 have hb0:=Xa w.heap.size w;go_enter Tryz.func151,Tryz.ntmps151
 go_wp2;go_loopw [5] (λi wr=>∃ p:Nat,(p=0∨p<n)/\i=ι κ (p+1:Nat)/\(∀ j,j<p+1->N7 R j=true)/\υ w.heap.size w wr) (λi _=>n - (XX i).toNat)
 case atStart=>exact⟨0,Xc rfl,rfl,λj hj=>by
  obtain rfl:j=0:=by omega
  rfl,hb0⟩
 case round=>
  obtain⟨p,hk,rfl,hall,hb⟩:=hrel;by_cases hlt:p+1<n
  ·
   obtain⟨b,off,i1,c1,rfl,c0,g1,l1⟩:=h.later hb (p+1) hlt;obtain⟨b',off',i2,c2,e',f0,g2,l2⟩:=h.later hb p (by omega);have q1:=h0 (p+1) hlt;have q2:=h0 p (by omega);obtain⟨rfl,rfl⟩:b=b'/\off=off':=by simpa using e'
   have i0:(0:Int)<=(p:Int):=by omega
   have i1:(p:Int)<(n:Int):=by omega
   have i3:(0:Int)<=(p:Int)+1:=by omega
   have i4:(p:Int)+1<(n:Int):=by omega
   have i2:IntKind.i64.wrap (p:Int)=(p:Int):=by rw [IntKind.wrap_i64];omega
   rcases h7:Xh (R p 0).s.toList (R (p+1) 0).s.toList
   ·
    go_wp2;refine XO (S:=λx=>υ wr.heap.size wr x) (by kernel_rfl) (BC _) (λjH=>?_);refine tk 0 Qw (λx jS=>by go_simp<;>rfl) jH ?_
    try simp only [zS]
    refine tk 1 Jy (λx jS=>by go_simp<;>rfl) jH ?_
    try simp only [zS]
    refine tk 2 Kt (λx jS=>by go_simp<;>rfl) jH ?_
    try simp only [zS]
    refine tk 3 Ks (v:=ι κ (p:Int)) (λx jS=>by go_simp<;>rfl) jH ?_
    try simp only [zS]
    refine tk 4 Jx (v:=ψ (ς ⟨b,off+p,ν⟩)) (λx jS=>by go_simp<;>rfl) jH ?_
    try simp only [zS]
    refine tk 5 Jw (λx jS=>by have k0:=AB jS c0;have k1:=AB jS f0;go_simp<;>rfl) jH ?_
    try simp only [zS]
    refine tk 7 Qv (λx jS=>by go_simp<;>rfl) jH ?_
    try simp only [zS]
    refine tk 8 Jv (λx jS=>by go_simp<;>rfl) jH ?_
    try simp only [zS]
    refine tk 9 Kr (λx jS=>by go_simp<;>rfl) jH ?_
    try simp only [zS]
    refine tk 10 Ju (λx jS=>by go_simp<;>rfl) jH ?_
    try simp only [zS]
    refine tk 11 Jt (λx jS=>by have k0:=AB jS c0;have k1:=AB jS f0;go_simp<;>rfl) jH ?_
    try simp only [zS]
    refine rd 6 Qu (λK hK=>?_);go_simp;refine(El _ _ _ (R p) _ (g2.later jH) q2).mono ?_;rintro e w1 ⟨rfl,rfl⟩;refine hK.out _ _ (jH) (λjH=>?_);clear hK K;try simp only [zS]
    refine rd 12 Qt (λK hK=>?_);go_simp;refine(El _ _ _ (R (p+1)) _ (g1.later jH) q1).mono ?_;rintro e w2 ⟨rfl,rfl⟩;refine hK.out _ _ (jH) (λjH=>?_);clear hK K;try simp only [zS]
    refine rd 13 Jz (λK hK=>?_);go_simp;refine(Ew (R p 0).s (R (p+1) 0).s _).mono ?_;rw [h7];rintro e w3 ⟨rfl,rfl⟩;refine hK.out _ _ (jH) (λjH=>?_);clear hK K;try simp only [zS]
    refine tk 14 GZ (λx jS=>by go_simp<;>rfl) jH ?_
    try simp only [zS]
    refine XW (by kernel_rfl) ?_ _;go_wp2;go_ret
    exact⟨AM (Ae (p:=N7 R) hlt (by unfold N7;rw [Nat.add_sub_cancel,h7];simp)).symm,AA hb jH⟩
   ·
    go_wp2;refine XO (S:=λx=>υ wr.heap.size wr x) (by kernel_rfl) (BC _) (λjH=>?_);refine tk 0 Qw (λx jS=>by go_simp<;>rfl) jH ?_
    try simp only [zS]
    refine tk 1 Jy (λx jS=>by go_simp<;>rfl) jH ?_
    try simp only [zS]
    refine tk 2 Kt (λx jS=>by go_simp<;>rfl) jH ?_
    try simp only [zS]
    refine tk 3 Ks (v:=ι κ (p:Int)) (λx jS=>by go_simp<;>rfl) jH ?_
    try simp only [zS]
    refine tk 4 Jx (v:=ψ (ς ⟨b,off+p,ν⟩)) (λx jS=>by go_simp<;>rfl) jH ?_
    try simp only [zS]
    refine tk 5 Jw (λx jS=>by have k0:=AB jS c0;have k1:=AB jS f0;go_simp<;>rfl) jH ?_
    try simp only [zS]
    refine tk 7 Qv (λx jS=>by go_simp<;>rfl) jH ?_
    try simp only [zS]
    refine tk 8 Jv (λx jS=>by go_simp<;>rfl) jH ?_
    try simp only [zS]
    refine tk 9 Kr (λx jS=>by go_simp<;>rfl) jH ?_
    try simp only [zS]
    refine tk 10 Ju (λx jS=>by go_simp<;>rfl) jH ?_
    try simp only [zS]
    refine tk 11 Jt (λx jS=>by have k0:=AB jS c0;have k1:=AB jS f0;go_simp<;>rfl) jH ?_
    try simp only [zS]
    refine rd 6 Qu (λK hK=>?_);go_simp;refine(El _ _ _ (R p) _ (g2.later jH) q2).mono ?_;rintro e w1 ⟨rfl,rfl⟩;refine hK.out _ _ (jH) (λjH=>?_);clear hK K;try simp only [zS]
    refine rd 12 Qt (λK hK=>?_);go_simp;refine(El _ _ _ (R (p+1)) _ (g1.later jH) q1).mono ?_;rintro e w2 ⟨rfl,rfl⟩;refine hK.out _ _ (jH) (λjH=>?_);clear hK K;try simp only [zS]
    refine rd 13 Jz (λK hK=>?_);go_simp;refine(Ew (R p 0).s (R (p+1) 0).s _).mono ?_;rw [h7];rintro e w3 ⟨rfl,rfl⟩;refine hK.out _ _ (jH) (λjH=>?_);clear hK K;try simp only [zS]
    refine tk 14 GZ (λx jS=>by go_simp<;>rfl) jH ?_
    try simp only [zS]
    refine XW (by kernel_rfl) ?_ _;go_wp2;go_roundw
    case rel=>exact⟨p+1,Xi hlt,by go_num,λj hj=>by
     by_cases e:j=p+1
     · subst e;unfold N7;rw [Nat.add_sub_cancel,h7];simp
     · exact hall j (by omega),AA hb jH⟩
    case measure=>simp [XX];omega
  ·
   go_wp2;go_ret
   exact⟨AM (Az λj hj=>hall j (by omega)).symm,hb⟩
theorem Gu{P:Program}{t k e:TypeId}(ht:P.underlying t=ς (.map k e))(q:IntKind)(n:Int)(w:ο):(Instr.makeMap t (ς (ι q n))).run P w=.ok (.map (ς w.heap.size)) (w.alloc (.map #[] 0)):=by
 simp [Instr.makeMap,run_underlying ht,asInt,asIntOf,Result.andThen]
def pl(C:Nat->Clm):Nat->DataW Unit
 | 0=>.map []
 | k+1=>(pl C k).put (Cf (C k).s) (.lit (.int .i64 k))
theorem IY{a b:ByteArray}(h:Cf a=Cf b):a=b:=by
 unfold Cf at h;injection h with h;exact Bt (by rw [ByteArray.toList_eq,ByteArray.toList_eq];exact h)
theorem FZ(C:Nat->Clm):∀ k,Tidy (pl C k)
 | 0=>tidy_empty
 | k+1=>(FZ C k).put (show WideAt.IsKeyLit (Cf (C k).s) from trivial) _
theorem JI(C:Nat->Clm)(s:ByteArray):∀ k,Maps.has (pl C k) (Cf s)=Ah C s k
 | 0=>rfl
 | k+1=>by
  show Maps.has ((pl C k).put (Cf (C k).s) (.lit (.int .i64 k))) (Cf s)=(Ah C s k || (C k).s.toList == s.toList)
  by_cases e:(C k).s=s
  ·
   rw [e,has_put_same (FZ C k).isMap (show WideAt.IsKeyLit (Cf s) from trivial),BH]
   simp
  · rw [has_put_other (λh=>e (IY h).symm),JI C s k,Tb,decide_eq_false e];simp
def FE(C:Nat->Clm)(n:Nat):Bool:=Aw n (λk=>!Ah C (C k).s k)
theorem JT(C:Nat->Clm):∀ k,Maps.size (pl C k)<=k/\(Maps.size (pl C k)=k↔∀ j,j<k->Ah C (C j).s j=false)
 | 0=>⟨XK _,⟨λ_ j hj=>by omega,λ_=>rfl⟩⟩
 | k+1=>by
  obtain⟨h1,h2⟩:=JT C k;have h3:Maps.size (pl C (k+1))=if Maps.has (pl C k) (Cf (C k).s) then Maps.size (pl C k) else Maps.size (pl C k)+1:=size_put (FZ C k) _
  rw [JI] at h3;rcases hq:Ah C (C k).s k
  ·
   rw [hq] at h3;simp only [Bool.false_eq_true,if_false] at h3
   refine⟨by omega,⟨λe j hj=>?_,λh=>?_⟩⟩
   ·
    by_cases ej:j=k
    · subst ej;exact hq
    · exact h2.1 (by omega) j (by omega)
   · have:=h2.2 λj hj=>h j (by omega);omega
  ·
   rw [hq] at h3;simp only [if_true] at h3
   refine⟨by omega,⟨λe=>by omega,λh=>?_⟩⟩;have:=h k (by omega);rw [hq] at this;cases this
theorem LD(C:Nat->Clm)(n:Nat):(((Maps.size (pl C n):Nat):Int) == (n:Int))=FE C n:=by
 obtain⟨-,h⟩:=JT C n;rcases hd:FE C n
 ·
  have:¬Maps.size (pl C n)=n:=λe=>by
   have ht:FE C n=true:=Az λj hj=>by rw [h.1 e j hj];rfl
   rw [hd] at ht;cases ht
  simp;omega
 ·
  have:Maps.size (pl C n)=n:=h.2 λj hj=>by
   rcases hq:Ah C (C j).s j
   · rfl
   · have:FE C n=false:=Ae hj (by rw [hq];rfl);rw [hd] at this;cases this
  rw [this];simp
theorem GH{w w':ο}{q b:Nat}{o:Obj}(h:w.heap[q]?=ς o)(hg:w.grownBy w' (ς b))(hne:q≠b):w'.heap[q]?=ς o:=
 (hg.block q (XS.1 h).1 (λe=>hne (by cases e;rfl))).trans h
theorem JF(a:Option Addr)(n c:Nat)(C:Nat->Clm)(w:ο)(h:CL w a n C)(hn:n<=1048576) :
 XR μ 56 #[.slice a n c] w λe w'=>e=.returned (.agg #[.slice a n c,.map (ς (w.heap.size+1))])/\w'.ownsMap μ 9 (plainElem (H:=Unit) μ 3) (w.heap.size+1) n (pl C n)/\υ w.heap.size w w':=by
 have hmm:=Gu (P:=μ) (t:=115) Tryz.underlying115 .i64 n;have hW:(w.alloc (.cells #[.slice ν 0 0,.map ν] 117)).heap.size=w.heap.size+1:=by simp
 have hbW:υ w.heap.size w ((w.alloc (.cells #[.slice ν 0 0,.map ν] 117)).alloc (.map #[] 0)):=AA (AE _ _) (AE _ _);go_enter Tryz.func56,Tryz.ntmps56
 go_wp2;clear hmm;go_loopw [4,5,11] (λ_ _ i wr=>∃ k:Nat,k<=n/\i=.int .i64 k/\wr.ownsMap μ 9 (plainElem (H:=Unit) μ 3) (w.heap.size+1) k (pl C k)/\wr.heap[w.heap.size]?=ς (.cells #[.slice ν 0 0,.map ν] 117 (0,0))/\υ w.heap.size w wr) (λ_ _ i _=>n - (XX i).toNat)
 case atStart=>
  refine⟨0,by omega,rfl,?_,AC (η _ _) (AE _ _),hbW⟩;have:=World.ownsMap_made (w.alloc (.cells #[.slice ν 0 0,.map ν] 117)) μ 9 (plainElem (H:=Unit) μ 3);rw [hW] at this;exact this
 case round=>
  obtain⟨k,hk,rfl,hown,hrow,hb⟩:=hrel;have HR:Hid (wr.heap[w.heap.size]?=ς (.cells #[.slice ν 0 0,.map ν] 117 (0,0))):=hrow;clear hrow;by_cases hlt:k<n
  ·
   obtain⟨b,off,rfl,d0,d1,hs⟩:=h.later hb k hlt;have hkey:keyOf μ 9 (.string (C k).s)=ς (Cf (C k).s):=keyOf_string_mk Tryz.underlying9 (by unfold maxLen;omega);have hval:plainElem (H:=Unit) μ 3 (.int .i64 k)=ς (.lit (.int .i64 k),[]):=plainElem_int Tryz.underlying3 (by have q1:IntKind.i64.min=-9223372036854775808:=rfl;have q2:IntKind.i64.max=9223372036854775807:=rfl;simp [Lit.wf];omega);have HV:Hid (plainElem (H:=Unit) μ 3 (.int .i64 k)=ς (.lit (.int .i64 k),[])):=hval;clear hval;go_wp2_with (first | (at_mapUpdate;refine wpList_mapUpdate_own _ rfl _ _ _ 115 rfl 9 3 K6 Tryz.underlying115 (plainElem (H:=Unit) μ 3) (w.heap.size+1) k (pl C k) rfl (hown.alloc _) (by unfold maxLen;omega) _ _ _ rfl rfl hkey (.lit (.int .i64 k)) [] HV.out ?_;intro w1 hown1 hgrow1) | go_in)
   go_roundw
   case rel=>exact⟨k+1,by omega,by go_num,hown1,GH (AC HR.out (AE _ _)) hgrow1 (by omega),(AA hb (AE _ _)).grown hgrow1 (AA hb (AE _ _)).size (λj hj=>by injection hj with hj;omega)⟩
   case measure=>simp [XX];omega
  ·
   obtain rfl:k=n:=by omega
   have m0:wr.cell? ⟨w.heap.size,0,ν⟩=ς (.slice ν 0 0):=(ε _ _ 0 _ _ _ HR.out).trans rfl;have m1:wr.cell? ⟨w.heap.size,1,ν⟩=ς (.map ν):=(ε _ _ 1 _ _ _ HR.out).trans rfl;have f0:wr.frozen? ⟨w.heap.size,0,ν⟩=false:=ζ _ _ 0 _ _ HR.out;have f1:wr.frozen? ⟨w.heap.size,1,ν⟩=false:=ζ _ _ 1 _ _ HR.out;go_wp2;have RV:=λv0 v1=>π _ _ 1 _ _ v1 (π _ _ 0 _ _ v0 HR.out);refine XL (v:=.agg #[.slice a k c,.map (ς (w.heap.size+1))]) (Xd Tryz.results56 _ _ w.heap.size 117 _ (0,0) _ rfl (RV _ _) Tryz.underlying117 rfl (by kernel_rfl)) rfl ⟨rfl,(hown.setCell (by simp) _).setCell (by simp) _,Al (Al hb (XK _)) (XK _)⟩
theorem EM(a:Option Addr)(n c:Nat)(C:Nat->Clm)(w:ο)(h:CL w a n C)(hn:n<=1048576) :
 XR μ 147 #[σ a n c] w λe w'=>e=ρ (β (FE C n))/\υ w.heap.size w w':=by
 have hD:=LD C n;have hfd:∀ v:ο,(Instr.field 117 (χ #[σ a n c,.map (ς (w.heap.size+1))]) 1).run μ v=.ok (.map (ς (w.heap.size+1))) v:=λ_=>by kernel_rfl
 go_enter Tryz.func147,Tryz.ntmps147
 go_wp2_with (first | (go_at_call 56;refine(JF _ _ _ _ _ h hn).mono ?_;rintro e w1 ⟨rfl,hown,hb1⟩) | (at_len;refine wpList_len_own _ rfl _ 115 rfl 9 3 Tryz.underlying115 _ (w.heap.size+1) n (pl C n) rfl hown ?_) | go_in)
 go_ret
 exact⟨rfl,hb1⟩
