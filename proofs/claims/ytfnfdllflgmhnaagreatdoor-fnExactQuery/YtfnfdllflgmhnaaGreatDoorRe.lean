import Derived.Test.YtfnfdllflgmhnaaGreatDoorRc
import Derived.Laws.DeepStrings4
open Go renaming Calls → XR, World → ο, wpAnyH_done → XW, wp_region_held_drew → XO
open Go.Ending renaming returned → ρ
open Go.Ground renaming data → φ, phase → ξ
open Go.IntKind renaming i64 → κ
open Go.Operand renaming tmp → δ
open Go.Proofs.Tryz renaming prog → μ
open Go.RowKit renaming Below → υ
open Go.Value renaming int → ι, pointer → ψ, bool → β, string → τ
open Nat renaming le_refl → XK
open Option renaming none → ν, some → ς
namespace Go.Proofs.YtfnfdllflgmhnaaGreatDoor
open Go.RowKit Go.Maps Go.WideMaps
def AD(s:ByteArray)(k:Nat):Option Nat->Option Nat
 | none=>ν
 | some a=>if a+k<=s.size then ς (a+k) else ν
def AK(s:ByteArray)(k:Nat):Option Nat->Int
 | none=>0
 | some a=>if a+k<=s.size then wrap64 (Hq s a k:Nat) else 0
def PI(w:ο)(B:Nat)(s:ByteArray):Option Nat->Prop
 | none=>RD w B ⟨#[]⟩ true
 | some a=>a<=s.size/\RD w B (s.extract a s.size) false
def PS(w:ο)(B:Nat)(s:ByteArray):Option Nat->Prop
 | none=>BL w B s (-1)
 | some a=>a<=s.size/\BL w B s (a:Nat)
theorem QH{s:ByteArray}{a b j:Nat}(hb:b<=s.size)(hj:a+j<b):GA (s.extract a b) j=GA s (a+j):=by
 unfold GA;have h1:j<(s.extract a b).size:=by rw [ByteArray.size_extract];omega
 rw [dif_pos h1,dif_pos (show a+j<s.size by omega)];rw [ByteArray.getElem_extract]
theorem Kd{s:ByteArray}{a k:Nat}(h:a+k<=s.size):∀ j,j<=k->LH (s.extract a (a+k)) j=Hq s a j
 | 0,_=>rfl
 | j+1,hj=>by rw [LH,Hq,Kd h j (by omega),QH h (by omega)]
theorem KT{s:ByteArray}{a n:Nat}(h:a+n<=s.size):(s.extract a s.size).extract 0 n=s.extract a (a+n)/\(s.extract a s.size).extract n (s.extract a s.size).size=s.extract (a+n) s.size:=by
 constructor
 ·
  rw [ByteArray.extract_extract];congr 1
  omega
 ·
  rw [ByteArray.extract_extract,ByteArray.size_extract];congr 1
  omega
theorem Gn(k:Nat):Is ⟨#[]⟩ k=⟨#[]⟩/\LM ⟨#[]⟩ k=⟨#[]⟩:=by
 unfold Is LM;have e:(⟨#[]⟩:ByteArray).size=0:=rfl;rw [e];by_cases h:0<k
 · rw [if_pos h,if_pos h];exact⟨rfl,rfl⟩
 ·
  obtain rfl:k=0:=by omega
  exact⟨rfl,rfl⟩
theorem JN{s:ByteArray}{a n:Nat}(h:a+n<=s.size):Is (s.extract a s.size) n=s.extract a (a+n)/\LM (s.extract a s.size) n=s.extract (a+n) s.size/\decide ((s.extract a s.size).size<n)=false:=by
 have e:¬(s.extract a s.size).size<n:=by rw [ByteArray.size_extract];omega
 unfold Is LM;rw [if_neg e,if_neg e];exact⟨(KT h).1,(KT h).2,decide_eq_false e⟩
theorem JO{s:ByteArray}{a n:Nat}(ha:a<=s.size)(h:¬a+n<=s.size):Is (s.extract a s.size) n=⟨#[]⟩/\LM (s.extract a s.size) n=⟨#[]⟩/\decide ((s.extract a s.size).size<n)=true:=by
 have e:(s.extract a s.size).size<n:=by rw [ByteArray.size_extract];omega
 unfold Is LM;rw [if_pos e,if_pos e];exact⟨rfl,rfl,decide_eq_true e⟩
theorem Nx:wrap64 ((LH ⟨#[]⟩ (⟨#[]⟩:ByteArray).size:Nat):Int)=0:=by
 rw [show (⟨#[]⟩:ByteArray).size=0 from rfl]
 simp [LH,wrap64]
theorem Ct(B:Nat)(s:ByteArray)(p:Option Nat)(k:Nat)(w:ο)(h:PI w B s p)(hk:k<=8) :
 XR μ 85 #[ψ (ς ⟨B,0,ν⟩),ι κ k] w λe w'=>e=ρ (ι κ (AK s k p))/\PI w' B s (AD s k p)/\w.grownBy w' (ς B):=by
 cases p with
 | none=>
  refine(Vn B ⟨#[]⟩ true k w h hk).mono ?_;rintro e w1 ⟨rfl,hR,hg⟩;rw [(Gn k).2,Bool.true_or] at hR;refine⟨?_,hR,hg⟩;rw [(Gn k).1,Nx];rfl
 | some a=>
  obtain⟨ha,h⟩:=h;refine(Vn B _ false k w h hk).mono ?_;rintro e w1 ⟨rfl,hR,hg⟩;by_cases hc:a+k<=s.size
  ·
   obtain⟨e1,e2,e3⟩:=JN hc;rw [e2,e3] at hR;simp only [AK,AD,if_pos hc]
   refine⟨?_,⟨hc,hR⟩,hg⟩;rw [e1,ByteArray.size_extract,show min (a+k) s.size - a=k by omega,Kd hc k (XK _)]
  ·
   obtain⟨e1,e2,e3⟩:=JO ha hc;rw [e2,e3] at hR;simp only [AK,AD,if_neg hc]
   refine⟨?_,hR,hg⟩;rw [e1,Nx]
theorem Ci(B:Nat)(s:ByteArray)(p:Option Nat)(k:Nat)(w:ο)(h:PS w B s p)(hs:s.size<=1048576)(hk:k<=8) :
 XR μ 40 #[ψ (ς ⟨B,0,ν⟩),ι κ k] w λe w'=>e=ρ (ι κ (AK s k p))/\PS w' B s (AD s k p)/\w.grownBy w' (ς B):=by
 cases p with
 | none=>exact Oa B s k w h
 | some a=>
  obtain⟨ha,h⟩:=h;by_cases hc:a+k<=s.size
  ·
   simp only [AK,AD,if_pos hc]
   refine(Ru B s a k w h hs hk hc).mono ?_;rintro e w1 ⟨rfl,hR,hg⟩;exact⟨rfl,⟨hc,hR⟩,hg⟩
  ·
   simp only [AK,AD,if_neg hc]
   exact Kn B s a k w h hs (by omega) hk (by omega)
set_option maxRecDepth 20000
set_option maxHeartbeats 8000000
abbrev Si:Oper:=⟨ς 9,.move (δ 0),86,"l4_stm.go:208",#[],ν⟩
abbrev Sh:Oper:=⟨ς 10,.nilCheck (δ 9),0,"l4_stm.go:208",#[⟨0,φ⟩],ν⟩
abbrev Sg:Oper:=⟨ς 11,.fieldAddr 88 (δ 10) 1,0,"l4_stm.go:208",#[⟨1,φ⟩],ν⟩
abbrev Sf:Oper:=⟨ς 12,.load 3 (δ 11),3,"l4_stm.go:208",#[⟨2,φ⟩],ν⟩
abbrev Se:Oper:=⟨ς 13,.binOp .lss 3 (δ 12) (.const (ι κ 0)) 3,4,"l4_stm.go:208",#[⟨3,φ⟩],ν⟩
abbrev Sd:Oper:=⟨ς 14,.move (δ 13),4,"l4_stm.go:208",#[⟨4,φ⟩],ν⟩
abbrev Sc:Oper:=⟨ς 15,.move (δ 0),86,"l4_stm.go:208",#[⟨5,.guard⟩],ς (5,false)⟩
abbrev Sb:Oper:=⟨ς 16,.nilCheck (δ 15),0,"l4_stm.go:208",#[⟨6,φ⟩,⟨5,.guard⟩],ς (5,false)⟩
abbrev SZ:Oper:=⟨ς 17,.fieldAddr 88 (δ 16) 1,0,"l4_stm.go:208",#[⟨7,φ⟩,⟨5,.guard⟩],ς (5,false)⟩
abbrev SY:Oper:=⟨ς 18,.load 3 (δ 17),3,"l4_stm.go:208",#[⟨8,φ⟩,⟨5,.guard⟩],ς (5,false)⟩
abbrev Mh:Oper:=⟨ς 19,.move (δ 5),3,"l4_stm.go:208",#[⟨5,.guard⟩],ς (5,false)⟩
abbrev Mg:Oper:=⟨ς 20,.binOp .add 3 (δ 18) (δ 19) 3,3,"l4_stm.go:208",#[⟨9,φ⟩,⟨10,φ⟩,⟨5,.guard⟩],ς (5,false)⟩
abbrev Mf:Oper:=⟨ς 21,.move (δ 0),86,"l4_stm.go:208",#[⟨5,.guard⟩],ς (5,false)⟩
abbrev Me:Oper:=⟨ς 22,.nilCheck (δ 21),0,"l4_stm.go:208",#[⟨12,φ⟩,⟨5,.guard⟩],ς (5,false)⟩
abbrev Mc:Oper:=⟨ς 23,.fieldAddr 88 (δ 22) 0,0,"l4_stm.go:208",#[⟨13,φ⟩,⟨5,.guard⟩],ς (5,false)⟩
abbrev Mb:Oper:=⟨ς 24,.load 9 (δ 23),9,"l4_stm.go:208",#[⟨14,φ⟩,⟨5,.guard⟩],ς (5,false)⟩
abbrev Ma:Oper:=⟨ς 25,.call ⟨.builtin .len,#[δ 24],#[9]⟩,3,"l4_stm.go:208",#[⟨15,φ⟩,⟨5,.guard⟩],ς (5,false)⟩
abbrev MZ:Oper:=⟨ς 26,.binOp .gtr 3 (δ 20) (δ 25) 3,4,"l4_stm.go:208",#[⟨11,φ⟩,⟨16,φ⟩,⟨5,.guard⟩],ς (5,false)⟩
abbrev MY:Oper:=⟨ς 27,.pick (δ 14) (.const (β true)) (δ 26),4,"l4_stm.go:208",#[⟨5,φ⟩,⟨17,φ⟩],ν⟩
def AY(s:ByteArray)(k:Nat)(p:Option Nat):Nat:=(AK s k p).toNat
def GN(s:ByteArray)(n:Nat):Option Nat->Option Nat
 | none=>ν
 | some a=>if a+n<=s.size then ς (a+n) else ν
def FV(s:ByteArray)(n:Nat):Option Nat->ByteArray
 | none=>⟨#[]⟩
 | some a=>if a+n<=s.size then s.extract a (a+n) else ⟨#[]⟩
def Ab(s:ByteArray)(k:Nat)(p:Option Nat):Option Nat:=GN s (AY s k p) (AD s k p)
def Ai(s:ByteArray)(k:Nat)(p:Option Nat):ByteArray:=FV s (AY s k p) (AD s k p)
theorem Nz(s:ByteArray)(a:Nat):∀ j,Hq s a j<256 ^ j
 | 0=>by simp [Hq]
 | j+1=>by
  have h1:=Nz s a j;have h2:=Hr s (a+j);rw [Hq,Nat.pow_succ];omega
theorem BF(s:ByteArray){k:Nat}(hk:k<=2)(p:Option Nat):AK s k p=(AY s k p:Nat)/\AY s k p<=65535:=by
 have key:0<=AK s k p/\AK s k p<=65535:=by
  cases p with
  | none=>exact⟨Int.le_refl _,by show (0:Int)<=65535;omega⟩
  | some a=>
   simp only [AK]
   split
   ·
    have h1:=Nz s a k;have h2:256 ^ k<=256 ^ 2:=Nat.pow_le_pow_right (by omega) hk;have h3:(256:Nat) ^ 2=65536:=by decide
    unfold wrap64;omega
   · omega
 unfold AY;omega
theorem Ww(B:Nat)(s:ByteArray)(p:Option Nat)(n:Nat)(w:ο)(h:PI w B s p)(hn:n<=1048576) :
 XR μ 139 #[ψ (ς ⟨B,0,ν⟩),ι κ n] w λe w'=>e=ρ (τ (FV s n p))/\PI w' B s (GN s n p)/\w.grownBy w' (ς B):=by
 cases p with
 | none=>
  refine(NH B ⟨#[]⟩ true n w h hn).mono ?_;rintro e w1 ⟨rfl,hR,hg⟩;rw [(Gn n).2,Bool.true_or] at hR;exact⟨by rw [(Gn n).1];rfl,hR,hg⟩
 | some a=>
  obtain⟨ha,h⟩:=h;refine(NH B _ false n w h hn).mono ?_;rintro e w1 ⟨rfl,hR,hg⟩;by_cases hc:a+n<=s.size
  ·
   obtain⟨e1,e2,e3⟩:=JN hc;rw [e2,e3] at hR;simp only [FV,GN,if_pos hc]
   exact⟨by rw [e1],⟨hc,hR⟩,hg⟩
  ·
   obtain⟨e1,e2,e3⟩:=JO ha hc;rw [e2,e3] at hR;simp only [FV,GN,if_neg hc]
   exact⟨by rw [e1],hR,hg⟩
theorem Dq(B:Nat)(s:ByteArray)(p:Option Nat)(k:Nat)(w:ο)(h:PI w B s p)(hk:k<=2) :
 XR μ 86 #[ψ (ς ⟨B,0,ν⟩),ι κ k] w λe w'=>e=ρ (τ (Ai s k p))/\PI w' B s (Ab s k p)/\w.grownBy w' (ς B):=by
 have hN:=Ct B s p k w h (by omega);obtain⟨h1,h2⟩:=BF s hk p;rw [h1] at hN;unfold Ai Ab;obtain⟨n,hn⟩:∃ n,AY s k p=n:=⟨_,rfl⟩;rw [hn] at hN h2 ⊢;clear hn h1;go_enter Tryz.func86,Tryz.ntmps86
 go_wp2_with (first | (go_at_call 85;refine hN.mono ?_;rintro e w1 ⟨rfl,hR1,hg1⟩) | (go_at_call 139;refine(Ww B s _ n _ hR1 (by omega)).mono ?_;rintro e w2 ⟨rfl,hR2,hg2⟩))
 go_ret
 exact⟨rfl,hR2,AQ hg1 hg2⟩
theorem Dc(B:Nat)(s:ByteArray)(p:Option Nat)(k:Nat)(w:ο)(h:PS w B s p)(hs:s.size<=1048576)(hk:k<=2) :
 XR μ 41 #[ψ (ς ⟨B,0,ν⟩),ι κ k] w λe w'=>e=ρ (τ (Ai s k p))/\PS w' B s (Ab s k p)/\w.grownBy w' (ς B):=by
 have hN:=Ci B s p k w h hs (by omega);obtain⟨h1,h2⟩:=BF s hk p;rw [h1] at hN;unfold Ai Ab;obtain⟨n,hn⟩:∃ n,AY s k p=n:=⟨_,rfl⟩;rw [hn] at hN h2 ⊢;clear hn h1;obtain⟨q,hq⟩:∃ q,AD s k p=q:=⟨_,rfl⟩;rw [hq] at hN ⊢;clear hq h;rcases q with _ | a
 ·
  go_enter Tryz.func41,Tryz.ntmps41
  go_upto_region 2 with (go_at_call 40;refine hN.mono ?_;rintro e w1 ⟨rfl,hR,hg⟩)
  have c0:=hR.c0;have c1:=hR.c1;have d1:w1.drew.cell? ⟨B,1,ν⟩=ς (ι κ (-1)):=c1;have g1:w1.drew.frozen? ⟨B,1,ν⟩=false:=hR.f1;have HH:Hid (BL w1.drew B s (-1)):=hR;clear hR;refine XO (S:=λx=>υ w1.heap.size w1 x) (by kernel_rfl) (Bc _) (λjH=>?_);refine tk 0 Si (λx jS=>by go_simp<;>rfl) jH ?_
  try simp only [zS]
  refine tk 1 Sh (λx jS=>by go_simp<;>rfl) jH ?_
  try simp only [zS]
  refine tk 2 Sg (λx jS=>by go_simp<;>rfl) jH ?_
  try simp only [zS]
  refine tk 3 Sf (λx jS=>by have k0:=AB jS c0;have k1:=AB jS c1;go_simp<;>rfl) jH ?_
  try simp only [zS]
  refine tk 4 Se (λx jS=>by go_simp<;>rfl) jH ?_
  try simp only [zS]
  refine tk 5 Sd (λx jS=>by go_simp<;>rfl) jH ?_
  try simp only [zS]
  refine Ao 6 Sc jH ?_;try simp only [zS]
  refine Ao 7 Sb jH ?_;try simp only [zS]
  refine Ao 8 SZ jH ?_;try simp only [zS]
  refine Ao 9 SY jH ?_;try simp only [zS]
  refine Ao 10 Mh jH ?_;try simp only [zS]
  refine Ao 11 Mg jH ?_;try simp only [zS]
  refine Ao 12 Mf jH ?_;try simp only [zS]
  refine Ao 13 Me jH ?_;try simp only [zS]
  refine Ao 14 Mc jH ?_;try simp only [zS]
  refine Ao 15 Mb jH ?_;try simp only [zS]
  refine Ao 16 Ma jH ?_;try simp only [zS]
  refine Ao 17 MZ jH ?_;try simp only [zS]
  refine tk 18 MY (λx jS=>by go_simp<;>rfl) jH ?_
  try simp only [zS]
  refine XW (by kernel_rfl) ?_ _;go_wp2;go_ret
  exact⟨rfl,HH.out.set _,AQ hg (AQ (TW w1 _) (A8 _ _ _ _))⟩
 by_cases hc:a+n<=s.size
 rotate_left
 ·
  have HV:Hid (FV s n (ς a)=⟨#[]⟩):=by show _=_;simp only [FV,if_neg hc]
  have HP:Hid (GN s n (ς a)=ν):=by show _=_;simp only [GN,if_neg hc]
  go_enter Tryz.func41,Tryz.ntmps41
  go_upto_region 2 with (go_at_call 40;refine hN.mono ?_;rintro e w1 ⟨rfl,hR,hg⟩)
  obtain⟨ha,hR⟩:=hR;have c0:=hR.c0;have c1:=hR.c1;have d1:w1.drew.cell? ⟨B,1,ν⟩=ς (ι κ (a:Nat)):=c1;have g1:w1.drew.frozen? ⟨B,1,ν⟩=false:=hR.f1;have HH:Hid (BL w1.drew B s (a:Nat)):=hR;clear hR;have i1:¬(a:Int)<0:=by omega
  have i2:IntKind.i64.wrap ((a:Int)+n)=(a:Int)+n:=by rw [IntKind.wrap_i64];omega
  have i3:(s.size:Int)<(a:Int)+n:=by omega
  refine XO (S:=λx=>υ w1.heap.size w1 x) (by kernel_rfl) (Bc _) (λjH=>?_);refine tk 0 Si (λx jS=>by go_simp<;>rfl) jH ?_
  try simp only [zS]
  refine tk 1 Sh (λx jS=>by go_simp<;>rfl) jH ?_
  try simp only [zS]
  refine tk 2 Sg (λx jS=>by go_simp<;>rfl) jH ?_
  try simp only [zS]
  refine tk 3 Sf (λx jS=>by have k0:=AB jS c0;have k1:=AB jS c1;go_simp<;>rfl) jH ?_
  try simp only [zS]
  refine tk 4 Se (λx jS=>by go_simp<;>rfl) jH ?_
  try simp only [zS]
  refine tk 5 Sd (λx jS=>by go_simp<;>rfl) jH ?_
  try simp only [zS]
  refine tk 6 Sc (λx jS=>by go_simp<;>rfl) jH ?_
  try simp only [zS]
  refine tk 7 Sb (λx jS=>by go_simp<;>rfl) jH ?_
  try simp only [zS]
  refine tk 8 SZ (λx jS=>by go_simp<;>rfl) jH ?_
  try simp only [zS]
  refine tk 9 SY (λx jS=>by have k0:=AB jS c0;have k1:=AB jS c1;go_simp<;>rfl) jH ?_
  try simp only [zS]
  refine tk 10 Mh (λx jS=>by go_simp<;>rfl) jH ?_
  try simp only [zS]
  refine tk 11 Mg (v:=ι κ ((a:Int)+n)) (λx jS=>by go_simp<;>rfl) jH ?_
  try simp only [zS]
  refine tk 12 Mf (λx jS=>by go_simp<;>rfl) jH ?_
  try simp only [zS]
  refine tk 13 Me (λx jS=>by go_simp<;>rfl) jH ?_
  try simp only [zS]
  refine tk 14 Mc (λx jS=>by go_simp<;>rfl) jH ?_
  try simp only [zS]
  refine tk 15 Mb (λx jS=>by have k0:=AB jS c0;have k1:=AB jS c1;go_simp<;>rfl) jH ?_
  try simp only [zS]
  refine tk 16 Ma (λx jS=>by go_simp<;>rfl) jH ?_
  try simp only [zS]
  refine tk 17 MZ (λx jS=>by go_simp<;>rfl) jH ?_
  try simp only [zS]
  refine tk 18 MY (λx jS=>by go_simp<;>rfl) jH ?_
  try simp only [zS]
  refine XW (by kernel_rfl) ?_ _;go_wp2;go_ret
  exact⟨by rw [HV.out];rfl,by rw [HP.out];exact HH.out.set _,AQ hg (AQ (TW w1 _) (A8 _ _ _ _))⟩
 ·
  have HV:Hid (FV s n (ς a)=s.extract a (a+n)):=by show _=_;simp only [FV,if_pos hc]
  have HP:Hid (GN s n (ς a)=ς (a+n)):=by show _=_;simp only [GN,if_pos hc]
  go_enter Tryz.func41,Tryz.ntmps41
  go_upto_region 2 with (go_at_call 40;refine hN.mono ?_;rintro e w1 ⟨rfl,hR,hg⟩)
  obtain⟨ha,hR⟩:=hR;have c0:=hR.c0;have c1:=hR.c1;have d1:w1.drew.cell? ⟨B,1,ν⟩=ς (ι κ (a:Nat)):=c1;have g1:w1.drew.frozen? ⟨B,1,ν⟩=false:=hR.f1;have HH:BL w1.drew B s (a:Nat):=hR;have HX:Hid (BL (w1.drew.setCell ⟨B,1,ν⟩ (ι κ ((a:Int)+n))) B s ((a:Int)+n)):=HH.set _;have e0:=HX.out.c0;have e1:=HX.out.c1;clear hR HH;have i1:¬(a:Int)<0:=by omega
  have i2:IntKind.i64.wrap ((a:Int)+n)=(a:Int)+n:=by rw [IntKind.wrap_i64];omega
  have i4:wrap64 ((a:Int)+n)=(a:Int)+n:=by unfold wrap64;omega
  have i3:¬(s.size:Int)<(a:Int)+n:=by omega
  have i5:IntKind.i64.wrap (a:Int)=(a:Int):=by rw [IntKind.wrap_i64];omega
  have i6:(0:Int)<=(a:Int)+n/\(a:Int)+n<=(s.size:Int):=by omega
  have i7:(0:Int)<=(a:Int)/\(a:Int)<=(a:Int)+n:=by omega
  have i8:((a:Int)+n).toNat=a+n:=by omega
  have hsl:∀ x:ο,(Instr.slice 9 (τ s) (ς (ι κ (a:Int))) (ς (ι κ ((a:Int)+n))) ν).run μ x=.ok (τ (s.extract a (a+n))) x:=λx=>by
   rw [run_slice_string_if x 9 _ _ _ _ _ Tryz.underlying9,if_pos i6,if_pos i7,i8];rfl
  refine XO (S:=λx=>υ w1.heap.size w1 x) (by kernel_rfl) (Bc _) (λjH=>?_);refine tk 0 Si (λx jS=>by go_simp<;>rfl) jH ?_
  try simp only [zS]
  refine tk 1 Sh (λx jS=>by go_simp<;>rfl) jH ?_
  try simp only [zS]
  refine tk 2 Sg (λx jS=>by go_simp<;>rfl) jH ?_
  try simp only [zS]
  refine tk 3 Sf (λx jS=>by have k0:=AB jS c0;have k1:=AB jS c1;go_simp<;>rfl) jH ?_
  try simp only [zS]
  refine tk 4 Se (λx jS=>by go_simp<;>rfl) jH ?_
  try simp only [zS]
  refine tk 5 Sd (λx jS=>by go_simp<;>rfl) jH ?_
  try simp only [zS]
  refine tk 6 Sc (λx jS=>by go_simp<;>rfl) jH ?_
  try simp only [zS]
  refine tk 7 Sb (λx jS=>by go_simp<;>rfl) jH ?_
  try simp only [zS]
  refine tk 8 SZ (λx jS=>by go_simp<;>rfl) jH ?_
  try simp only [zS]
  refine tk 9 SY (λx jS=>by have k0:=AB jS c0;have k1:=AB jS c1;go_simp<;>rfl) jH ?_
  try simp only [zS]
  refine tk 10 Mh (λx jS=>by go_simp<;>rfl) jH ?_
  try simp only [zS]
  refine tk 11 Mg (v:=ι κ ((a:Int)+n)) (λx jS=>by go_simp<;>rfl) jH ?_
  try simp only [zS]
  refine tk 12 Mf (λx jS=>by go_simp<;>rfl) jH ?_
  try simp only [zS]
  refine tk 13 Me (λx jS=>by go_simp<;>rfl) jH ?_
  try simp only [zS]
  refine tk 14 Mc (λx jS=>by go_simp<;>rfl) jH ?_
  try simp only [zS]
  refine tk 15 Mb (λx jS=>by have k0:=AB jS c0;have k1:=AB jS c1;go_simp<;>rfl) jH ?_
  try simp only [zS]
  refine tk 16 Ma (λx jS=>by go_simp<;>rfl) jH ?_
  try simp only [zS]
  refine tk 17 MZ (λx jS=>by go_simp<;>rfl) jH ?_
  try simp only [zS]
  refine tk 18 MY (λx jS=>by go_simp<;>rfl) jH ?_
  try simp only [zS]
  refine XW (by kernel_rfl) ?_ _;go_wp2;refine XO (S:=λx=>υ (w1.drew.setCell ⟨B,1,ν⟩ (ι κ ((a:Int)+n))).heap.size (w1.drew.setCell ⟨B,1,ν⟩ (ι κ ((a:Int)+n))) x) (by kernel_rfl) (Bc _) (λjH=>?_);refine tk 0 (⟨ς 39,.move (δ 0),86,"l4_stm.go:213",#[],ν⟩:Oper) (λx jS=>by go_simp<;>rfl) jH ?_
  try simp only [zS]
  refine tk 1 (⟨ς 40,.nilCheck (δ 39),0,"l4_stm.go:213",#[⟨0,φ⟩],ν⟩:Oper) (λx jS=>by go_simp<;>rfl) jH ?_
  try simp only [zS]
  refine tk 2 (⟨ς 41,.fieldAddr 88 (δ 40) 0,0,"l4_stm.go:213",#[⟨1,φ⟩],ν⟩:Oper) (λx jS=>by go_simp<;>rfl) jH ?_
  try simp only [zS]
  refine tk 3 (⟨ς 42,.load 9 (δ 41),9,"l4_stm.go:213",#[⟨2,φ⟩],ν⟩:Oper) (λx jS=>by have k0:=AB jS e0;have k1:=AB jS e1;go_simp<;>rfl) jH ?_
  try simp only [zS]
  refine tk 4 (⟨ς 43,.move (δ 0),86,"l4_stm.go:213",#[],ν⟩:Oper) (λx jS=>by go_simp<;>rfl) jH ?_
  try simp only [zS]
  refine tk 5 (⟨ς 44,.nilCheck (δ 43),0,"l4_stm.go:213",#[⟨4,φ⟩],ν⟩:Oper) (λx jS=>by go_simp<;>rfl) jH ?_
  try simp only [zS]
  refine tk 6 (⟨ς 45,.fieldAddr 88 (δ 44) 1,0,"l4_stm.go:213",#[⟨5,φ⟩],ν⟩:Oper) (λx jS=>by go_simp<;>rfl) jH ?_
  try simp only [zS]
  refine tk 7 (⟨ς 46,.load 3 (δ 45),3,"l4_stm.go:213",#[⟨6,φ⟩],ν⟩:Oper) (λx jS=>by have k0:=AB jS e0;have k1:=AB jS e1;go_simp<;>rfl) jH ?_
  try simp only [zS]
  refine tk 8 (⟨ς 47,.move (δ 5),3,"l4_stm.go:213",#[],ν⟩:Oper) (λx jS=>by go_simp<;>rfl) jH ?_
  try simp only [zS]
  refine tk 9 (⟨ς 48,.binOp .sub 3 (δ 46) (δ 47) 3,3,"l4_stm.go:213",#[⟨7,φ⟩,⟨8,φ⟩],ν⟩:Oper) (v:=ι κ (a:Int)) (λx jS=>by go_simp<;>rfl) jH ?_
  try simp only [zS]
  refine tk 10 (⟨ς 49,.move (δ 0),86,"l4_stm.go:213",#[],ν⟩:Oper) (λx jS=>by go_simp<;>rfl) jH ?_
  try simp only [zS]
  refine tk 11 (⟨ς 50,.nilCheck (δ 49),0,"l4_stm.go:213",#[⟨10,φ⟩],ν⟩:Oper) (λx jS=>by go_simp<;>rfl) jH ?_
  try simp only [zS]
  refine tk 12 (⟨ς 51,.fieldAddr 88 (δ 50) 1,0,"l4_stm.go:213",#[⟨11,φ⟩],ν⟩:Oper) (λx jS=>by go_simp<;>rfl) jH ?_
  try simp only [zS]
  refine tk 13 (⟨ς 52,.load 3 (δ 51),3,"l4_stm.go:213",#[⟨12,φ⟩],ν⟩:Oper) (λx jS=>by have k0:=AB jS e0;have k1:=AB jS e1;go_simp<;>rfl) jH ?_
  try simp only [zS]
  refine tk 14 (⟨ς 53,.slice 9 (δ 42) (ς (δ 48)) (ς (δ 52)) ν,9,"l4_stm.go:213",#[⟨3,φ⟩,⟨9,φ⟩,⟨13,φ⟩],ν⟩:Oper) (v:=τ (s.extract a (a+n))) (λx jS=>by go_simp<;>rfl) jH ?_
  try simp only [zS]
  refine tk 15 (⟨ς 4,.assign (δ 53),9,"l4_stm.go:213",#[⟨14,φ⟩,⟨0,ξ⟩,⟨1,ξ⟩,⟨2,ξ⟩,⟨3,ξ⟩,⟨4,ξ⟩,⟨5,ξ⟩,⟨6,ξ⟩,⟨7,ξ⟩,⟨8,ξ⟩,⟨9,ξ⟩,⟨10,ξ⟩,⟨11,ξ⟩,⟨12,ξ⟩,⟨13,ξ⟩,⟨14,ξ⟩],ν⟩:Oper) (λx jS=>by go_simp<;>rfl) jH ?_
  try simp only [zS]
  refine XW (by kernel_rfl) ?_ _;go_wp2;go_ret
  exact⟨by rw [HV.out];rfl,by rw [HP.out];exact⟨hc,by rw [Int.natCast_add];exact HX.out.later (Bc _)⟩,AQ hg (AQ (AQ (TW w1 _) (A8 _ _ _ _)) (TW _ _))⟩
