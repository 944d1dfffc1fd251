import Derived.Test.YtfnfdllflgmhnaaGreatDoorVe
open Go renaming Calls → XR, World → ο, bodyPost_ret → XL, heap_alloc_new → η, results_cell_row → Xd, wpAnyH_done → XW, wp_region_held_drew → XO
open Go.Ending renaming returned → ρ
open Go.Ground renaming data → φ, phase → ξ
open Go.IntKind renaming i64 → κ
open Go.Obj renaming cells → γ
open Go.Op renaming bytesLess → Xh
open Go.Operand renaming tmp → δ
open Go.Proofs.Tryz renaming prog → μ
open Go.RowKit renaming Below → υ
open Go.Value renaming agg → χ, bool → β, int → ι, string → τ, slice → σ
open Go.World renaming size_alloc → ω
open Nat renaming add_zero → Xm
open Option renaming none → ν, some → ς
open Or renaming inl → Xc
namespace Go.Proofs.YtfnfdllflgmhnaaGreatDoor
open Go.RowKit Go.Maps Go.WideMaps
set_option maxRecDepth 20000
set_option maxHeartbeats 4000000
theorem NF(s:ByteArray)(w:ο):XR μ 199 #[τ s] w λe w'=>e=ρ (χ #[ι κ 2,ι κ 0,τ s])/\υ w.heap.size w w':=by
 go_enter Tryz.func199,Tryz.ntmps199
 go_wp2;exact XL (v:=χ #[ι κ 2,ι κ 0,τ s]) (by simp [results,Tryz.results199,go_sem]) rfl ⟨rfl,by first | exact AE _ _ | exact AA (AE _ _) (AE _ _)⟩
theorem Dr(b:Bool)(w:ο):XR μ 200 #[β b] w λe w'=>e=ρ (ι κ (DJ b))/\w'=w:=by
 cases b
 ·
  go_enter Tryz.func200,Tryz.ntmps200
  go_wp2;go_ret
  exact⟨rfl,rfl⟩
 ·
  go_enter Tryz.func200,Tryz.ntmps200
  go_wp2;go_ret
  exact⟨rfl,rfl⟩
def Fv(o m:Int)(s:ByteArray)(m':Int)(s':ByteArray):Bool:=if o=1 then decide (m<m') else Xh s.toList s'.toList
theorem Pp(o m:Int)(s:ByteArray)(o' m':Int)(s':ByteArray)(w:ο):XR μ 201 #[χ #[ι κ o,ι κ m,τ s],χ #[ι κ o',ι κ m',τ s']] w λe w'=>e=ρ (β (Fv o m s m' s'))/\υ w.heap.size w w':=by
 have hb0:=AA (AE w (γ #[ι κ o,ι κ m,τ s] 94)) (AE _ (γ #[ι κ o',ι κ m',τ s'] 94));by_cases h:o=1
 ·
  subst h;have HE:Hid (Fv 1 m s m' s'=decide (m<m')):=by show _=_;simp [Fv]
  go_enter Tryz.func201,Tryz.ntmps201
  go_wp2_with (go_at_call 186;refine(F7 m m' _).mono ?_;rintro e w1 ⟨rfl,rfl⟩)
  go_ret
  exact⟨by rw [HE.out];rfl,hb0⟩
 ·
  have n1:(o == 1)=false:=by simpa using h
  have HE:Hid (Fv o m s m' s'=Xh s.toList s'.toList):=by show _=_;unfold Fv;rw [if_neg h]
  clear h;go_enter Tryz.func201,Tryz.ntmps201
  go_wp2_with (go_at_call 153;refine(Ew s s' _).mono ?_;rintro e w1 ⟨rfl,rfl⟩)
  go_ret
  exact⟨by rw [HE.out];rfl,hb0⟩
def Nt(o x y:Int):Int:=if o=4 then wrap64 (x+y) else if o=5 then wrap64 (x - y) else if o=6 then wrap64 (x * y) else if o=9 then DJ (!decide (x=0) && !decide (y=0)) else DJ (!decide (x=0) || !decide (y=0))
theorem WD(o x y:Int)(w:ο):XR μ 202 #[ι κ o,ι κ x,ι κ y] w λe w'=>e=ρ (ι κ (Nt o x y))/\w'=w:=by
 by_cases h4:o=4
 ·
  subst h4;go_enter Tryz.func202,Tryz.ntmps202
  go_wp2;go_ret
  exact⟨by simp [Nt],rfl⟩
 by_cases h5:o=5
 ·
  subst h5;go_enter Tryz.func202,Tryz.ntmps202
  go_wp2;go_ret
  exact⟨by simp [Nt],rfl⟩
 by_cases h6:o=6
 ·
  subst h6;go_enter Tryz.func202,Tryz.ntmps202
  go_wp2;go_ret
  exact⟨by simp [Nt],rfl⟩
 have n4:(o == 4)=false:=by simpa using h4
 have n5:(o == 5)=false:=by simpa using h5
 have n6:(o == 6)=false:=by simpa using h6
 have key:∀ b:Bool,b=(x != 0)->∀ c:Bool,c=(y != 0)->b=!decide (x=0)/\c=!decide (y=0):=λb hb c hc=>by
  subst hb;subst hc;constructor <;> (by_cases h:x=0 <;> by_cases h':y=0 <;> simp [h,h'])
 obtain⟨b,hb⟩:∃ b,(x != 0)=b:=⟨_,rfl⟩;obtain⟨c,hc⟩:∃ c,(y != 0)=c:=⟨_,rfl⟩;obtain⟨k1,k2⟩:=key b hb.symm c hc.symm;by_cases h9:o=9
 ·
  subst h9;have HE:Hid (Nt 9 x y=DJ (b && c)):=by show _=_;unfold Nt;rw [k1,k2];simp
  clear k1 k2 key h4 h5 h6;cases b <;> cases c
  all_goals
   go_enter Tryz.func202,Tryz.ntmps202
   go_wp2_with (go_at_call 200;first | (refine(Dr true _).mono ?_;rintro e w1 ⟨rfl,rfl⟩) | (refine(Dr false _).mono ?_;rintro e w1 ⟨rfl,rfl⟩))
   go_ret
   exact⟨by rw [HE.out];rfl,rfl⟩
 ·
  have n9:(o == 9)=false:=by simpa using h9
  have HE:Hid (Nt o x y=DJ (b || c)):=by show _=_;unfold Nt;rw [k1,k2,if_neg h4,if_neg h5,if_neg h6,if_neg h9]
  clear k1 k2 key h4 h5 h6 h9;cases b <;> cases c
  all_goals
   go_enter Tryz.func202,Tryz.ntmps202
   go_wp2_with (go_at_call 200;first | (refine(Dr true _).mono ?_;rintro e w1 ⟨rfl,rfl⟩) | (refine(Dr false _).mono ?_;rintro e w1 ⟨rfl,rfl⟩))
   go_ret
   exact⟨by rw [HE.out];rfl,rfl⟩
set_option maxHeartbeats 8000000
def CU(x:Itm):Prop:=(x.o=1/\x.s=⟨#[]⟩)∨(x.o=2/\x.m=0)
theorem Th{x y:Itm}(hx:CU x)(hy:CU y)(ho:x.o=y.o):decide (BP x.m x.s y.m y.s=0)=decide (x.m=y.m/\x.s=y.s):=by
 have hl:∀ s:ByteArray,Xh s.toList s.toList=false:=λs=>DP _;rcases hx with ⟨h1,h2⟩ | ⟨h1,h2⟩ <;> rcases hy with ⟨h3,h4⟩ | ⟨h3,h4⟩
 ·
  rw [h2,h4];unfold BP Cv;rw [hl];simp only [Bool.or_false]
  by_cases e1:x.m<y.m
  ·
   have:¬x.m=y.m:=by omega
   simp [e1,this]
  ·
   by_cases e2:y.m<x.m
   ·
    have:¬x.m=y.m:=by omega
    simp [e1,e2,this]
   ·
    have:x.m=y.m:=by omega
    simp [this]
 · omega
 · omega
 ·
  rw [h2,h4];unfold BP Cv;simp only [Int.lt_irrefl,decide_false,Bool.false_or]
  rcases e1:Xh x.s.toList y.s.toList
  ·
   by_cases e2:x.s=y.s
   · simp [e2]
   ·
    have:(x.s.toList == y.s.toList)=false:=by rw [Tb];simp [e2]
    simp [this,e2]
  ·
   have e2:¬x.s=y.s:=λe=>by rw [e,hl] at e1;cases e1
   simp [e2]
theorem Tg{x y:Itm}(hx:CU x)(hy:CU y)(ho:x.o=y.o):decide (BP x.m x.s y.m y.s<0)=Fv x.o x.m x.s y.m y.s:=by
 have hl:∀ s:ByteArray,Xh s.toList s.toList=false:=λs=>DP _;rcases hx with ⟨h1,h2⟩ | ⟨h1,h2⟩ <;> rcases hy with ⟨h3,h4⟩ | ⟨h3,h4⟩
 ·
  rw [h2,h4];unfold BP Cv Fv;rw [hl,if_pos h1];simp only [Bool.or_false]
  by_cases e1:x.m<y.m
  · simp [e1]
  ·
   by_cases e2:y.m<x.m
   · simp [e1,e2]
   · simp [e1,e2]
 · omega
 · omega
 ·
  rw [h2,h4,show Fv x.o 0 x.s 0 y.s=Xh x.s.toList y.s.toList from by unfold Fv;rw [if_neg (by omega)]]
  unfold BP Cv;simp only [Int.lt_irrefl,decide_false,Bool.false_or]
  rcases e1:Xh x.s.toList y.s.toList
  ·
   by_cases e2:(x.s.toList == y.s.toList)=true
   · simp [e2]
   · simp [e2]
  · simp
theorem Va{α:Type}(m m':Int)(s s':ByteArray)(f:Bool->α):(if m=m' then (if s.toList=s'.toList then f true else f false) else f false)=f (decide (m=m'/\s=s')):=by
 by_cases h1:m=m'
 ·
  rw [if_pos h1];by_cases h2:s.toList=s'.toList
  · rw [if_pos h2];simp [h1,Bt h2]
  · have h3:¬s=s':=λe=>h2 (by rw [e]);rw [if_neg h2];simp [h3]
 · rw [if_neg h1];simp [h1]
def GL(t:Itm)(x y:Itm):Itm:=if t.o=1 then ⟨1,t.m,⟨#[]⟩⟩ else if t.o=2 then ⟨2,0,t.s⟩ else DS t.o x y
theorem Vl(o mm:Int)(s:ByteArray)(a:Option Addr)(m c:Nat)(X:Nat->Itm)(w:ο)(hX:IL w a m X)(hm:Aj o<=m)(hm2:m<=1048576)(ho:1<=o/\o<=13)(ho3:¬o=3)(hgo:(o=7∨o=8)->CU (X 0)/\CU (X 1)/\(X 0).o=(X 1).o)(hsz:∀ i,i<m->(X i).s.size<=1000000) :
 XR μ 167 #[χ #[ι κ o,ι κ mm,τ s],σ a m c] w λe w'=>e=ρ (χ #[ι κ (GL ⟨o,mm,s⟩ (X 0) (X 1)).o,ι κ (GL ⟨o,mm,s⟩ (X 0) (X 1)).m,τ (GL ⟨o,mm,s⟩ (X 0) (X 1)).s])/\υ w.heap.size w w':=by
 have HGO:Hid ((o=7∨o=8)->CU (X 0)/\CU (X 1)/\(X 0).o=(X 1).o):=hgo;clear hgo;by_cases e1:o=1
 ·
  subst e1;have hbU:υ w.heap.size w ((w.alloc (γ #[ι κ 1,ι κ mm,τ s] 135)).alloc (γ #[ι κ 0,ι κ 0,τ ⟨#[]⟩] 94)):=AA (AE _ _) (AE _ _);have hrr:((w.alloc (γ #[ι κ 1,ι κ mm,τ s] 135)).alloc (γ #[ι κ 0,ι κ 0,τ ⟨#[]⟩] 94)).heap[w.heap.size+1]?=ς (γ #[ι κ 0,ι κ 0,τ ⟨#[]⟩] 94 (0,0)):=by
   have q:=η (w.alloc (γ #[ι κ 1,ι κ mm,τ s] 135)) (γ #[ι κ 0,ι κ 0,τ ⟨#[]⟩] 94);rw [ω] at q;exact q
  have hri:((w.alloc (γ #[ι κ 1,ι κ mm,τ s] 135)).alloc (γ #[ι κ 0,ι κ 0,τ ⟨#[]⟩] 94)).heap[w.heap.size]?=ς (γ #[ι κ 1,ι κ mm,τ s] 135 (0,0)):=AC (η w _) (AE _ _);have HT:Hid (GL ⟨1,mm,s⟩ (X 0) (X 1)=⟨1,mm,⟨#[]⟩⟩):=by show _=_;simp [GL]
  go_enter Tryz.func167,Tryz.ntmps167
  go_wp2_with (go_at_call 185;refine(CN _ _).mono ?_;rintro e w2 ⟨rfl,hb2⟩;have hr2:=AC hrr hb2;have hB2:=AA hbU hb2;obtain⟨q0,q1,q2,f0,f1,f2⟩:=AX hr2)
  refine XL (v:=χ #[ι κ 1,ι κ mm,τ ⟨#[]⟩]) (Xd Tryz.results167 _ _ (w.heap.size+1) 94 _ (0,0) _ rfl (Cz hr2 _ _ _) Tryz.underlying94 rfl (by kernel_rfl)) rfl ⟨by rw [HT.out],BB hB2 (by omega) _ _ _⟩
 by_cases e2:o=2
 ·
  subst e2;have hbU:υ w.heap.size w ((w.alloc (γ #[ι κ 2,ι κ mm,τ s] 135)).alloc (γ #[ι κ 0,ι κ 0,τ ⟨#[]⟩] 94)):=AA (AE _ _) (AE _ _);have hrr:((w.alloc (γ #[ι κ 2,ι κ mm,τ s] 135)).alloc (γ #[ι κ 0,ι κ 0,τ ⟨#[]⟩] 94)).heap[w.heap.size+1]?=ς (γ #[ι κ 0,ι κ 0,τ ⟨#[]⟩] 94 (0,0)):=by
   have q:=η (w.alloc (γ #[ι κ 2,ι κ mm,τ s] 135)) (γ #[ι κ 0,ι κ 0,τ ⟨#[]⟩] 94);rw [ω] at q;exact q
  have hri:((w.alloc (γ #[ι κ 2,ι κ mm,τ s] 135)).alloc (γ #[ι κ 0,ι κ 0,τ ⟨#[]⟩] 94)).heap[w.heap.size]?=ς (γ #[ι κ 2,ι κ mm,τ s] 135 (0,0)):=AC (η w _) (AE _ _);have HT:Hid (GL ⟨2,mm,s⟩ (X 0) (X 1)=⟨2,0,s⟩):=by show _=_;simp [GL]
  go_enter Tryz.func167,Tryz.ntmps167
  go_wp2_with (go_at_call 199;refine(NF _ _).mono ?_;rintro e w2 ⟨rfl,hb2⟩;have hr2:=AC hrr hb2;have hB2:=AA hbU hb2;obtain⟨q0,q1,q2,f0,f1,f2⟩:=AX hr2)
  refine XL (v:=χ #[ι κ 2,ι κ 0,τ s]) (Xd Tryz.results167 _ _ (w.heap.size+1) 94 _ (0,0) _ rfl (Cz hr2 _ _ _) Tryz.underlying94 rfl (by kernel_rfl)) rfl ⟨by rw [HT.out],BB hB2 (by omega) _ _ _⟩
 by_cases e11:o=11
 ·
  subst e11;have hbU:υ w.heap.size w ((w.alloc (γ #[ι κ 11,ι κ mm,τ s] 135)).alloc (γ #[ι κ 0,ι κ 0,τ ⟨#[]⟩] 94)):=AA (AE _ _) (AE _ _);have hrr:((w.alloc (γ #[ι κ 11,ι κ mm,τ s] 135)).alloc (γ #[ι κ 0,ι κ 0,τ ⟨#[]⟩] 94)).heap[w.heap.size+1]?=ς (γ #[ι κ 0,ι κ 0,τ ⟨#[]⟩] 94 (0,0)):=by
   have q:=η (w.alloc (γ #[ι κ 11,ι κ mm,τ s] 135)) (γ #[ι κ 0,ι κ 0,τ ⟨#[]⟩] 94);rw [ω] at q;exact q
  have hri:((w.alloc (γ #[ι κ 11,ι κ mm,τ s] 135)).alloc (γ #[ι κ 0,ι κ 0,τ ⟨#[]⟩] 94)).heap[w.heap.size]?=ς (γ #[ι κ 11,ι κ mm,τ s] 135 (0,0)):=AC (η w _) (AE _ _);have ha:1<=m:=by simp [Aj] at hm;omega
  obtain⟨b,off,rfl,x0,x1,x2,-⟩:=hX.later hbU 0 (by omega);simp only [Nat.zero_mul,Xm] at x0 x1 x2
  have i0_:(0:Int)<m:=by omega
  have in0_:0<m:=by omega
  have hz0:=hsz 0 (by omega);obtain⟨xo,xm,xs,hx⟩:∃ xo xm xs,X 0=⟨xo,xm,xs⟩:=⟨_,_,_,rfl⟩;rw [hx] at x0 x1 x2 hz0;simp only at x0 x1 x2 hz0
  have HT:Hid (GL ⟨11,mm,s⟩ (X 0) (X 1)=⟨1,DJ (decide (xm=0)),⟨#[]⟩⟩):=by show _=_;simp [GL,DS,N6,hx]
  clear hx;obtain⟨bb,hbb⟩:∃ bb,decide (xm=0)=bb:=⟨_,rfl⟩;have hbb2:(xm == 0)=bb:=by rw [←hbb];by_cases h:xm=0 <;> simp [h]
  rw [hbb] at HT;clear hbb;cases bb
  all_goals
   go_enter Tryz.func167,Tryz.ntmps167
   go_wp2_with (first | (go_at_call 200;first | (refine(Dr true _).mono ?_;rintro e w1 ⟨rfl,rfl⟩) | (refine(Dr false _).mono ?_;rintro e w1 ⟨rfl,rfl⟩)) | (go_at_call 185;refine(CN _ _).mono ?_;rintro e w2 ⟨rfl,hb2⟩;have hr2:=AC hrr hb2;have hB2:=AA hbU hb2;obtain⟨q0,q1,q2,f0,f1,f2⟩:=AX hr2))
   refine XL (v:=χ #[ι κ 1,ι κ (DJ _),τ ⟨#[]⟩]) (Xd Tryz.results167 _ _ (w.heap.size+1) 94 _ (0,0) _ rfl (Cz hr2 _ _ _) Tryz.underlying94 rfl (by kernel_rfl)) rfl ⟨by rw [HT.out],BB hB2 (by omega) _ _ _⟩
 by_cases e13:o=13
 ·
  subst e13;have hbU:υ w.heap.size w ((w.alloc (γ #[ι κ 13,ι κ mm,τ s] 135)).alloc (γ #[ι κ 0,ι κ 0,τ ⟨#[]⟩] 94)):=AA (AE _ _) (AE _ _);have hrr:((w.alloc (γ #[ι κ 13,ι κ mm,τ s] 135)).alloc (γ #[ι κ 0,ι κ 0,τ ⟨#[]⟩] 94)).heap[w.heap.size+1]?=ς (γ #[ι κ 0,ι κ 0,τ ⟨#[]⟩] 94 (0,0)):=by
   have q:=η (w.alloc (γ #[ι κ 13,ι κ mm,τ s] 135)) (γ #[ι κ 0,ι κ 0,τ ⟨#[]⟩] 94);rw [ω] at q;exact q
  have hri:((w.alloc (γ #[ι κ 13,ι κ mm,τ s] 135)).alloc (γ #[ι κ 0,ι κ 0,τ ⟨#[]⟩] 94)).heap[w.heap.size]?=ς (γ #[ι κ 13,ι κ mm,τ s] 135 (0,0)):=AC (η w _) (AE _ _);have ha:1<=m:=by simp [Aj] at hm;omega
  obtain⟨b,off,rfl,x0,x1,x2,-⟩:=hX.later hbU 0 (by omega);simp only [Nat.zero_mul,Xm] at x0 x1 x2
  have i0_:(0:Int)<m:=by omega
  have in0_:0<m:=by omega
  have hz0:=hsz 0 (by omega);obtain⟨xo,xm,xs,hx⟩:∃ xo xm xs,X 0=⟨xo,xm,xs⟩:=⟨_,_,_,rfl⟩;rw [hx] at x0 x1 x2 hz0;simp only at x0 x1 x2 hz0
  have HT:Hid (GL ⟨13,mm,s⟩ (X 0) (X 1)=⟨1,(xs.size:Int),⟨#[]⟩⟩):=by show _=_;simp [GL,DS,hx]
  clear hx;go_enter Tryz.func167,Tryz.ntmps167
  go_wp2_with (go_at_call 185;refine(CN _ _).mono ?_;rintro e w2 ⟨rfl,hb2⟩;have hr2:=AC hrr hb2;have hB2:=AA hbU hb2;obtain⟨q0,q1,q2,f0,f1,f2⟩:=AX hr2)
  refine XL (v:=χ #[ι κ 1,ι κ (xs.size:Int),τ ⟨#[]⟩]) (Xd Tryz.results167 _ _ (w.heap.size+1) 94 _ (0,0) _ rfl (Cz hr2 _ _ _) Tryz.underlying94 rfl (by kernel_rfl)) rfl ⟨by rw [HT.out],BB hB2 (by omega) _ _ _⟩
 by_cases e12:o=12
 ·
  subst e12;have hbU:υ w.heap.size w ((w.alloc (γ #[ι κ 12,ι κ mm,τ s] 135)).alloc (γ #[ι κ 0,ι κ 0,τ ⟨#[]⟩] 94)):=AA (AE _ _) (AE _ _);have hrr:((w.alloc (γ #[ι κ 12,ι κ mm,τ s] 135)).alloc (γ #[ι κ 0,ι κ 0,τ ⟨#[]⟩] 94)).heap[w.heap.size+1]?=ς (γ #[ι κ 0,ι κ 0,τ ⟨#[]⟩] 94 (0,0)):=by
   have q:=η (w.alloc (γ #[ι κ 12,ι κ mm,τ s] 135)) (γ #[ι κ 0,ι κ 0,τ ⟨#[]⟩] 94);rw [ω] at q;exact q
  have hri:((w.alloc (γ #[ι κ 12,ι κ mm,τ s] 135)).alloc (γ #[ι κ 0,ι κ 0,τ ⟨#[]⟩] 94)).heap[w.heap.size]?=ς (γ #[ι κ 12,ι κ mm,τ s] 135 (0,0)):=AC (η w _) (AE _ _);have ha:2<=m:=by simp [Aj] at hm;omega
  obtain⟨b,off,rfl,x0,x1,x2,-⟩:=hX.later hbU 0 (by omega);simp only [Nat.zero_mul,Xm] at x0 x1 x2
  have i0_:(0:Int)<m:=by omega
  have in0_:0<m:=by omega
  have hz0:=hsz 0 (by omega);obtain⟨b9,off9,e9,y0,y1,y2,-⟩:=hX.later hbU 1 (by omega);obtain⟨rfl,rfl⟩:b=b9/\off=off9:=by simpa using e9
  clear e9;simp only [Nat.one_mul] at y0 y1 y2
  have i1_:(1:Int)<m:=by omega
  have in1_:1<m:=by omega
  have hz1:=hsz 1 (by omega);obtain⟨xo,xm,xs,hx⟩:∃ xo xm xs,X 0=⟨xo,xm,xs⟩:=⟨_,_,_,rfl⟩;rw [hx] at x0 x1 x2 hz0;simp only at x0 x1 x2 hz0
  obtain⟨yo,ym,ys,hy⟩:∃ yo ym ys,X 1=⟨yo,ym,ys⟩:=⟨_,_,_,rfl⟩;rw [hy] at y0 y1 y2 hz1;simp only at y0 y1 y2 hz1
  have hcat:¬9223372036854775807<xs.size+ys.size:=by omega
  have HXY:Hid (X 0=⟨xo,xm,xs⟩/\X 1=⟨yo,ym,ys⟩):=⟨hx,hy⟩;have HT:Hid (GL ⟨12,mm,s⟩ (X 0) (X 1)=⟨2,0,xs ++ ys⟩):=by show _=_;simp [GL,DS,hx,hy]
  clear hx hy;go_enter Tryz.func167,Tryz.ntmps167
  go_upto_region 13 with (fail)
  replace hrr:((w.alloc (γ #[ι κ 12,ι κ mm,τ s] 135)).alloc (γ #[ι κ 0,ι κ 0,τ ⟨#[]⟩] 94)).drew.heap[w.heap.size+1]?=ς (γ #[ι κ 0,ι κ 0,τ ⟨#[]⟩] 94 (0,0)):=hrr;refine XO (S:=λx=>υ w.heap.size w x/\x.heap[w.heap.size]?=ς (γ #[ι κ 12,ι κ mm,τ s] 135 (0,0))) (by kernel_rfl) (⟨AA hbU (CE _),hri⟩) (λjH=>?_);refine tk 0 (⟨ς 50,.move (δ 1),60,"l5_replay.go:310",#[],ν⟩:Oper) (λx jS=>by go_simp<;>rfl) jH ?_
  try simp only [zS]
  refine tk 1 (⟨ς 51,.indexAddr 60 (δ 50) (.const (ι κ 0)),0,"l5_replay.go:310",#[⟨0,φ⟩],ν⟩:Oper) (λx jS=>by go_simp<;>rfl) jH ?_
  try simp only [zS]
  refine tk 2 (⟨ς 52,.fieldAddr 94 (δ 51) 2,0,"l5_replay.go:310",#[⟨1,φ⟩],ν⟩:Oper) (λx jS=>by go_simp<;>rfl) jH ?_
  try simp only [zS]
  refine tk 3 (⟨ς 53,.load 9 (δ 52),9,"l5_replay.go:310",#[⟨2,φ⟩],ν⟩:Oper) (λx jS=>by obtain⟨hs1,hs2⟩:=jS;obtain⟨k0,k1,k2,-⟩:=AX hs2;obtain⟨_,_,ea,l0,l1,l2,-⟩:=hX.later hs1 0 (by omega);obtain⟨_,_,eb,m0,m1,m2,-⟩:=hX.later hs1 1 (by omega);obtain⟨rfl,rfl⟩:=(by simpa using ea);obtain⟨rfl,rfl⟩:=(by simpa using eb);simp only [Nat.zero_mul,Nat.one_mul,Xm] at l0 l1 l2 m0 m1 m2;rw [HXY.out.1] at l0 l1 l2;rw [HXY.out.2] at m0 m1 m2;simp only at l0 l1 l2 m0 m1 m2;go_simp<;>rfl) jH ?_
  try simp only [zS]
  refine tk 4 (⟨ς 54,.move (δ 1),60,"l5_replay.go:310",#[],ν⟩:Oper) (λx jS=>by go_simp<;>rfl) jH ?_
  try simp only [zS]
  refine tk 5 (⟨ς 55,.indexAddr 60 (δ 54) (.const (ι κ 1)),0,"l5_replay.go:310",#[⟨4,φ⟩],ν⟩:Oper) (λx jS=>by go_simp<;>rfl) jH ?_
  try simp only [zS]
  refine tk 6 (⟨ς 56,.fieldAddr 94 (δ 55) 2,0,"l5_replay.go:310",#[⟨5,φ⟩],ν⟩:Oper) (λx jS=>by go_simp<;>rfl) jH ?_
  try simp only [zS]
  refine tk 7 (⟨ς 57,.load 9 (δ 56),9,"l5_replay.go:310",#[⟨6,φ⟩],ν⟩:Oper) (λx jS=>by obtain⟨hs1,hs2⟩:=jS;obtain⟨k0,k1,k2,-⟩:=AX hs2;obtain⟨_,_,ea,l0,l1,l2,-⟩:=hX.later hs1 0 (by omega);obtain⟨_,_,eb,m0,m1,m2,-⟩:=hX.later hs1 1 (by omega);obtain⟨rfl,rfl⟩:=(by simpa using ea);obtain⟨rfl,rfl⟩:=(by simpa using eb);simp only [Nat.zero_mul,Nat.one_mul,Xm] at l0 l1 l2 m0 m1 m2;rw [HXY.out.1] at l0 l1 l2;rw [HXY.out.2] at m0 m1 m2;simp only at l0 l1 l2 m0 m1 m2;go_simp<;>rfl) jH ?_
  try simp only [zS]
  refine tk 8 (⟨ς 58,.binOp .add 9 (δ 53) (δ 57) 9,9,"l5_replay.go:310",#[⟨3,φ⟩,⟨7,φ⟩],ν⟩:Oper) (λx jS=>by go_simp<;>rfl) jH ?_
  try simp only [zS]
  refine rd 9 (⟨ς 59,.call ⟨.value (.func 199),#[δ 58],#[9]⟩,94,"l5_replay.go:310",#[⟨8,φ⟩],ν⟩:Oper) (λK hK=>?_);go_simp;refine(NF _ _).mono ?_;rintro e w5 ⟨rfl,hb5⟩;replace hrr:=AC hrr hb5;refine hK.out _ _ (⟨AA jH.1 hb5,AC jH.2 hb5⟩) (λjH=>?_);clear hK K;try simp only [zS]
  refine rd 10 (⟨ν,.store 94 (δ 4) (δ 59),0,"l5_replay.go:310",#[⟨9,φ⟩,⟨9,.chain⟩,⟨0,ξ⟩,⟨1,ξ⟩,⟨2,ξ⟩,⟨3,ξ⟩,⟨4,ξ⟩,⟨5,ξ⟩,⟨6,ξ⟩,⟨7,ξ⟩,⟨8,ξ⟩,⟨9,ξ⟩],ν⟩:Oper) (λK hK=>?_);obtain⟨g0_,g1_,g2_,gf0,gf1,gf2⟩:=AX hrr;go_simp;refine hK.out _ _ (⟨BB jH.1 (by omega) _ _ _,AS (AS (AS jH.2 (by omega)) (by omega)) (by omega)⟩) (λjH=>?_);clear hK K;try simp only [zS]
  refine XW (by kernel_rfl) ?_ _;go_wp2;refine XL (v:=χ #[ι κ 2,ι κ 0,τ (xs ++ ys)]) (Xd Tryz.results167 _ _ (w.heap.size+1) 94 _ (0,0) _ rfl (Cz hrr _ _ _) Tryz.underlying94 rfl (by kernel_rfl)) rfl ⟨by rw [HT.out],jH.1⟩
 by_cases e8:o=8
 ·
  subst e8;have hbU:υ w.heap.size w ((w.alloc (γ #[ι κ 8,ι κ mm,τ s] 135)).alloc (γ #[ι κ 0,ι κ 0,τ ⟨#[]⟩] 94)):=AA (AE _ _) (AE _ _);have hrr:((w.alloc (γ #[ι κ 8,ι κ mm,τ s] 135)).alloc (γ #[ι κ 0,ι κ 0,τ ⟨#[]⟩] 94)).heap[w.heap.size+1]?=ς (γ #[ι κ 0,ι κ 0,τ ⟨#[]⟩] 94 (0,0)):=by
   have q:=η (w.alloc (γ #[ι κ 8,ι κ mm,τ s] 135)) (γ #[ι κ 0,ι κ 0,τ ⟨#[]⟩] 94);rw [ω] at q;exact q
  have hri:((w.alloc (γ #[ι κ 8,ι κ mm,τ s] 135)).alloc (γ #[ι κ 0,ι κ 0,τ ⟨#[]⟩] 94)).heap[w.heap.size]?=ς (γ #[ι κ 8,ι κ mm,τ s] 135 (0,0)):=AC (η w _) (AE _ _);have ha:2<=m:=by simp [Aj] at hm;omega
  obtain⟨b,off,rfl,x0,x1,x2,-⟩:=hX.later hbU 0 (by omega);simp only [Nat.zero_mul,Xm] at x0 x1 x2
  have i0_:(0:Int)<m:=by omega
  have in0_:0<m:=by omega
  have hz0:=hsz 0 (by omega);obtain⟨b9,off9,e9,y0,y1,y2,-⟩:=hX.later hbU 1 (by omega);obtain⟨rfl,rfl⟩:b=b9/\off=off9:=by simpa using e9
  clear e9;simp only [Nat.one_mul] at y0 y1 y2
  have i1_:(1:Int)<m:=by omega
  have in1_:1<m:=by omega
  have hz1:=hsz 1 (by omega);obtain⟨xo,xm,xs,hx⟩:∃ xo xm xs,X 0=⟨xo,xm,xs⟩:=⟨_,_,_,rfl⟩;rw [hx] at x0 x1 x2 hz0;simp only at x0 x1 x2 hz0
  obtain⟨yo,ym,ys,hy⟩:∃ yo ym ys,X 1=⟨yo,ym,ys⟩:=⟨_,_,_,rfl⟩;rw [hy] at y0 y1 y2 hz1;simp only at y0 y1 y2 hz1
  have hcl:=Tg (HGO.out (by simp)).1 (HGO.out (by simp)).2.1 (HGO.out (by simp)).2.2;rw [hx,hy] at hcl;simp only at hcl
  have HXY:Hid (X 0=⟨xo,xm,xs⟩/\X 1=⟨yo,ym,ys⟩):=⟨hx,hy⟩;have HT:Hid (GL ⟨8,mm,s⟩ (X 0) (X 1)=⟨1,DJ (Fv xo xm xs ym ys),⟨#[]⟩⟩):=by show _=_;simp [GL,DS,N6,hx,hy];rw [←hcl]
  clear hx hy;go_enter Tryz.func167,Tryz.ntmps167
  go_upto_region 9 with (fail)
  replace hrr:((w.alloc (γ #[ι κ 8,ι κ mm,τ s] 135)).alloc (γ #[ι κ 0,ι κ 0,τ ⟨#[]⟩] 94)).drew.heap[w.heap.size+1]?=ς (γ #[ι κ 0,ι κ 0,τ ⟨#[]⟩] 94 (0,0)):=hrr;refine XO (S:=λx=>υ w.heap.size w x/\x.heap[w.heap.size]?=ς (γ #[ι κ 8,ι κ mm,τ s] 135 (0,0))) (by kernel_rfl) (⟨AA hbU (CE _),hri⟩) (λjH=>?_);refine tk 0 (⟨ς 30,.move (δ 1),60,"l5_replay.go:306",#[],ν⟩:Oper) (λx jS=>by go_simp<;>rfl) jH ?_
  try simp only [zS]
  refine tk 1 (⟨ς 31,.indexAddr 60 (δ 30) (.const (ι κ 0)),0,"l5_replay.go:306",#[⟨0,φ⟩],ν⟩:Oper) (λx jS=>by go_simp<;>rfl) jH ?_
  try simp only [zS]
  refine tk 2 (⟨ς 32,.load 94 (δ 31),94,"l5_replay.go:306",#[⟨1,φ⟩],ν⟩:Oper) (λx jS=>by obtain⟨hs1,hs2⟩:=jS;obtain⟨k0,k1,k2,-⟩:=AX hs2;obtain⟨_,_,ea,l0,l1,l2,-⟩:=hX.later hs1 0 (by omega);obtain⟨_,_,eb,m0,m1,m2,-⟩:=hX.later hs1 1 (by omega);obtain⟨rfl,rfl⟩:=(by simpa using ea);obtain⟨rfl,rfl⟩:=(by simpa using eb);simp only [Nat.zero_mul,Nat.one_mul,Xm] at l0 l1 l2 m0 m1 m2;rw [HXY.out.1] at l0 l1 l2;rw [HXY.out.2] at m0 m1 m2;simp only at l0 l1 l2 m0 m1 m2;go_simp<;>rfl) jH ?_
  try simp only [zS]
  refine tk 3 (⟨ς 33,.move (δ 1),60,"l5_replay.go:306",#[],ν⟩:Oper) (λx jS=>by go_simp<;>rfl) jH ?_
  try simp only [zS]
  refine tk 4 (⟨ς 34,.indexAddr 60 (δ 33) (.const (ι κ 1)),0,"l5_replay.go:306",#[⟨3,φ⟩],ν⟩:Oper) (λx jS=>by go_simp<;>rfl) jH ?_
  try simp only [zS]
  refine tk 5 (⟨ς 35,.load 94 (δ 34),94,"l5_replay.go:306",#[⟨4,φ⟩],ν⟩:Oper) (λx jS=>by obtain⟨hs1,hs2⟩:=jS;obtain⟨k0,k1,k2,-⟩:=AX hs2;obtain⟨_,_,ea,l0,l1,l2,-⟩:=hX.later hs1 0 (by omega);obtain⟨_,_,eb,m0,m1,m2,-⟩:=hX.later hs1 1 (by omega);obtain⟨rfl,rfl⟩:=(by simpa using ea);obtain⟨rfl,rfl⟩:=(by simpa using eb);simp only [Nat.zero_mul,Nat.one_mul,Xm] at l0 l1 l2 m0 m1 m2;rw [HXY.out.1] at l0 l1 l2;rw [HXY.out.2] at m0 m1 m2;simp only at l0 l1 l2 m0 m1 m2;go_simp<;>rfl) jH ?_
  try simp only [zS]
  refine rd 6 (⟨ς 36,.call ⟨.value (.func 201),#[δ 32,δ 35],#[94,94]⟩,4,"l5_replay.go:306",#[⟨2,φ⟩,⟨5,φ⟩],ν⟩:Oper) (λK hK=>?_);go_simp;refine(Pp xo xm xs yo ym ys _).mono ?_;rintro e w4 ⟨rfl,hb4⟩;replace hrr:=AC hrr hb4;refine hK.out _ _ (⟨AA jH.1 hb4,AC jH.2 hb4⟩) (λjH=>?_);clear hK K;try simp only [zS]
  refine rd 7 (⟨ς 37,.call ⟨.value (.func 200),#[δ 36],#[4]⟩,3,"l5_replay.go:306",#[⟨6,φ⟩,⟨6,.chain⟩],ν⟩:Oper) (λK hK=>?_);go_simp;refine(Dr _ _).mono ?_;rintro e w1 ⟨rfl,rfl⟩;refine hK.out _ _ (jH) (λjH=>?_);clear hK K;try simp only [zS]
  refine rd 8 (⟨ς 38,.call ⟨.value (.func 185),#[δ 37],#[3]⟩,94,"l5_replay.go:306",#[⟨7,φ⟩,⟨7,.chain⟩],ν⟩:Oper) (λK hK=>?_);go_simp;refine(CN _ _).mono ?_;rintro e w6 ⟨rfl,hb6⟩;replace hrr:=AC hrr hb6;refine hK.out _ _ (⟨AA jH.1 hb6,AC jH.2 hb6⟩) (λjH=>?_);clear hK K;try simp only [zS]
  refine rd 9 (⟨ν,.store 94 (δ 4) (δ 38),0,"l5_replay.go:306",#[⟨8,φ⟩,⟨8,.chain⟩,⟨0,ξ⟩,⟨1,ξ⟩,⟨2,ξ⟩,⟨3,ξ⟩,⟨4,ξ⟩,⟨5,ξ⟩,⟨6,ξ⟩,⟨7,ξ⟩,⟨8,ξ⟩],ν⟩:Oper) (λK hK=>?_);obtain⟨g0_,g1_,g2_,gf0,gf1,gf2⟩:=AX hrr;go_simp;refine hK.out _ _ (⟨BB jH.1 (by omega) _ _ _,AS (AS (AS jH.2 (by omega)) (by omega)) (by omega)⟩) (λjH=>?_);clear hK K;try simp only [zS]
  refine XW (by kernel_rfl) ?_ _;go_wp2;refine XL (v:=χ #[ι κ 1,ι κ (DJ (Fv xo xm xs ym ys)),τ ⟨#[]⟩]) (Xd Tryz.results167 _ _ (w.heap.size+1) 94 _ (0,0) _ rfl (Cz hrr _ _ _) Tryz.underlying94 rfl (by kernel_rfl)) rfl ⟨by rw [HT.out],jH.1⟩
 by_cases e7:o=7
 ·
  subst e7;have hbU:υ w.heap.size w ((w.alloc (γ #[ι κ 7,ι κ mm,τ s] 135)).alloc (γ #[ι κ 0,ι κ 0,τ ⟨#[]⟩] 94)):=AA (AE _ _) (AE _ _);have hrr:((w.alloc (γ #[ι κ 7,ι κ mm,τ s] 135)).alloc (γ #[ι κ 0,ι κ 0,τ ⟨#[]⟩] 94)).heap[w.heap.size+1]?=ς (γ #[ι κ 0,ι κ 0,τ ⟨#[]⟩] 94 (0,0)):=by
   have q:=η (w.alloc (γ #[ι κ 7,ι κ mm,τ s] 135)) (γ #[ι κ 0,ι κ 0,τ ⟨#[]⟩] 94);rw [ω] at q;exact q
  have hri:((w.alloc (γ #[ι κ 7,ι κ mm,τ s] 135)).alloc (γ #[ι κ 0,ι κ 0,τ ⟨#[]⟩] 94)).heap[w.heap.size]?=ς (γ #[ι κ 7,ι κ mm,τ s] 135 (0,0)):=AC (η w _) (AE _ _);have ha:2<=m:=by simp [Aj] at hm;omega
  obtain⟨b,off,rfl,x0,x1,x2,-⟩:=hX.later hbU 0 (by omega);simp only [Nat.zero_mul,Xm] at x0 x1 x2
  have i0_:(0:Int)<m:=by omega
  have in0_:0<m:=by omega
  have hz0:=hsz 0 (by omega);obtain⟨b9,off9,e9,y0,y1,y2,-⟩:=hX.later hbU 1 (by omega);obtain⟨rfl,rfl⟩:b=b9/\off=off9:=by simpa using e9
  clear e9;simp only [Nat.one_mul] at y0 y1 y2
  have i1_:(1:Int)<m:=by omega
  have in1_:1<m:=by omega
  have hz1:=hsz 1 (by omega);obtain⟨xo,xm,xs,hx⟩:∃ xo xm xs,X 0=⟨xo,xm,xs⟩:=⟨_,_,_,rfl⟩;rw [hx] at x0 x1 x2 hz0;simp only at x0 x1 x2 hz0
  obtain⟨yo,ym,ys,hy⟩:∃ yo ym ys,X 1=⟨yo,ym,ys⟩:=⟨_,_,_,rfl⟩;rw [hy] at y0 y1 y2 hz1;simp only at y0 y1 y2 hz1
  have hcl:=Th (HGO.out (by simp)).1 (HGO.out (by simp)).2.1 (HGO.out (by simp)).2.2;have hoo:=(HGO.out (by simp)).2.2;rw [hx,hy] at hcl hoo;simp only at hcl hoo
  subst hoo;obtain⟨be,hbe⟩:∃ be,decide (xm=ym/\xs=ys)=be:=⟨_,rfl⟩;rw [hbe] at hcl;have HBE:Hid (decide (xm=ym/\xs=ys)=be):=hbe;clear hbe;have HXY:Hid (X 0=⟨xo,xm,xs⟩/\X 1=⟨xo,ym,ys⟩):=⟨hx,hy⟩;have HT:Hid (GL ⟨7,mm,s⟩ (X 0) (X 1)=⟨1,DJ be,⟨#[]⟩⟩):=by show _=_;simp [GL,DS,N6,hx,hy];rw [hcl]
  clear hx hy;go_enter Tryz.func167,Tryz.ntmps167
  go_upto_region 7 with (fail)
  replace hrr:((w.alloc (γ #[ι κ 7,ι κ mm,τ s] 135)).alloc (γ #[ι κ 0,ι κ 0,τ ⟨#[]⟩] 94)).drew.heap[w.heap.size+1]?=ς (γ #[ι κ 0,ι κ 0,τ ⟨#[]⟩] 94 (0,0)):=hrr;refine XO (S:=λx=>υ w.heap.size w x/\x.heap[w.heap.size]?=ς (γ #[ι κ 7,ι κ mm,τ s] 135 (0,0))) (by kernel_rfl) (⟨AA hbU (CE _),hri⟩) (λjH=>?_);refine tk 0 (⟨ς 19,.move (δ 1),60,"l5_replay.go:304",#[],ν⟩:Oper) (λx jS=>by go_simp<;>rfl) jH ?_
  try simp only [zS]
  refine tk 1 (⟨ς 20,.indexAddr 60 (δ 19) (.const (ι κ 0)),0,"l5_replay.go:304",#[⟨0,φ⟩],ν⟩:Oper) (λx jS=>by go_simp<;>rfl) jH ?_
  try simp only [zS]
  refine tk 2 (⟨ς 21,.load 94 (δ 20),94,"l5_replay.go:304",#[⟨1,φ⟩],ν⟩:Oper) (λx jS=>by obtain⟨hs1,hs2⟩:=jS;obtain⟨k0,k1,k2,-⟩:=AX hs2;obtain⟨_,_,ea,l0,l1,l2,-⟩:=hX.later hs1 0 (by omega);obtain⟨_,_,eb,m0,m1,m2,-⟩:=hX.later hs1 1 (by omega);obtain⟨rfl,rfl⟩:=(by simpa using ea);obtain⟨rfl,rfl⟩:=(by simpa using eb);simp only [Nat.zero_mul,Nat.one_mul,Xm] at l0 l1 l2 m0 m1 m2;rw [HXY.out.1] at l0 l1 l2;rw [HXY.out.2] at m0 m1 m2;simp only at l0 l1 l2 m0 m1 m2;go_simp<;>rfl) jH ?_
  try simp only [zS]
  refine tk 3 (⟨ς 22,.move (δ 1),60,"l5_replay.go:304",#[],ν⟩:Oper) (λx jS=>by go_simp<;>rfl) jH ?_
  try simp only [zS]
  refine tk 4 (⟨ς 23,.indexAddr 60 (δ 22) (.const (ι κ 1)),0,"l5_replay.go:304",#[⟨3,φ⟩],ν⟩:Oper) (λx jS=>by go_simp<;>rfl) jH ?_
  try simp only [zS]
  refine tk 5 (⟨ς 24,.load 94 (δ 23),94,"l5_replay.go:304",#[⟨4,φ⟩],ν⟩:Oper) (λx jS=>by obtain⟨hs1,hs2⟩:=jS;obtain⟨k0,k1,k2,-⟩:=AX hs2;obtain⟨_,_,ea,l0,l1,l2,-⟩:=hX.later hs1 0 (by omega);obtain⟨_,_,eb,m0,m1,m2,-⟩:=hX.later hs1 1 (by omega);obtain⟨rfl,rfl⟩:=(by simpa using ea);obtain⟨rfl,rfl⟩:=(by simpa using eb);simp only [Nat.zero_mul,Nat.one_mul,Xm] at l0 l1 l2 m0 m1 m2;rw [HXY.out.1] at l0 l1 l2;rw [HXY.out.2] at m0 m1 m2;simp only at l0 l1 l2 m0 m1 m2;go_simp<;>rfl) jH ?_
  try simp only [zS]
  refine wpAnyH_take (i:=6) (oi:=(⟨ς 25,.binOp .eql 94 (δ 21) (δ 24) 94,4,"l5_replay.go:304",#[⟨2,φ⟩,⟨5,φ⟩],ν⟩:Oper)) (v:=β be) rfl (by kernel_rfl) (by kernel_rfl) (by kernel_rfl) (λ_ _ _ h=>h) (Xc ⟨by rfl,λx jS=>(by obtain⟨hs1,hs2⟩:=jS;obtain⟨k0,k1,k2,-⟩:=AX hs2;obtain⟨_,_,ea,l0,l1,l2,-⟩:=hX.later hs1 0 (by omega);obtain⟨_,_,eb,m0,m1,m2,-⟩:=hX.later hs1 1 (by omega);obtain⟨rfl,rfl⟩:=(by simpa using ea);obtain⟨rfl,rfl⟩:=(by simpa using eb);simp only [Nat.zero_mul,Nat.one_mul,Xm] at l0 l1 l2 m0 m1 m2;rw [HXY.out.1] at l0 l1 l2;rw [HXY.out.2] at m0 m1 m2;simp only at l0 l1 l2 m0 m1 m2;go_simp;rw [←HBE.out];exact Va xm ym xs ys (λb=>Result.ok (Next.value (Value.bool b)) x))⟩) jH ?_;try simp only [zS]
  refine rd 7 (⟨ς 26,.call ⟨.value (.func 200),#[δ 25],#[4]⟩,3,"l5_replay.go:304",#[⟨6,φ⟩],ν⟩:Oper) (λK hK=>?_);go_simp;refine(Dr _ _).mono ?_;rintro e w1 ⟨rfl,rfl⟩;refine hK.out _ _ (jH) (λjH=>?_);clear hK K;try simp only [zS]
  refine rd 8 (⟨ς 27,.call ⟨.value (.func 185),#[δ 26],#[3]⟩,94,"l5_replay.go:304",#[⟨7,φ⟩,⟨7,.chain⟩],ν⟩:Oper) (λK hK=>?_);go_simp;refine(CN _ _).mono ?_;rintro e w6 ⟨rfl,hb6⟩;replace hrr:=AC hrr hb6;refine hK.out _ _ (⟨AA jH.1 hb6,AC jH.2 hb6⟩) (λjH=>?_);clear hK K;try simp only [zS]
  refine rd 9 (⟨ν,.store 94 (δ 4) (δ 27),0,"l5_replay.go:304",#[⟨8,φ⟩,⟨8,.chain⟩,⟨0,ξ⟩,⟨1,ξ⟩,⟨2,ξ⟩,⟨3,ξ⟩,⟨4,ξ⟩,⟨5,ξ⟩,⟨6,ξ⟩,⟨7,ξ⟩,⟨8,ξ⟩],ν⟩:Oper) (λK hK=>?_);obtain⟨g0_,g1_,g2_,gf0,gf1,gf2⟩:=AX hrr;go_simp;refine hK.out _ _ (⟨BB jH.1 (by omega) _ _ _,AS (AS (AS jH.2 (by omega)) (by omega)) (by omega)⟩) (λjH=>?_);clear hK K;try simp only [zS]
  refine XW (by kernel_rfl) ?_ _;go_wp2;refine XL (v:=χ #[ι κ 1,ι κ (DJ be),τ ⟨#[]⟩]) (Xd Tryz.results167 _ _ (w.heap.size+1) 94 _ (0,0) _ rfl (Cz hrr _ _ _) Tryz.underlying94 rfl (by kernel_rfl)) rfl ⟨by rw [HT.out],jH.1⟩
 have ha2:Aj o=2:=by unfold Aj;rw [if_neg (by omega),if_neg (by omega)]
 have ha:2<=m:=by omega
 have n1:(o == 1)=false:=by simpa using e1
 have n2:(o == 2)=false:=by simpa using e2
 have n7:(o == 7)=false:=by simpa using e7
 have n8:(o == 8)=false:=by simpa using e8
 have n11:(o == 11)=false:=by simpa using e11
 have n12:(o == 12)=false:=by simpa using e12
 have n13:(o == 13)=false:=by simpa using e13
 have hbU:υ w.heap.size w ((w.alloc (γ #[ι κ o,ι κ mm,τ s] 135)).alloc (γ #[ι κ 0,ι κ 0,τ ⟨#[]⟩] 94)):=AA (AE _ _) (AE _ _);have hrr:((w.alloc (γ #[ι κ o,ι κ mm,τ s] 135)).alloc (γ #[ι κ 0,ι κ 0,τ ⟨#[]⟩] 94)).heap[w.heap.size+1]?=ς (γ #[ι κ 0,ι κ 0,τ ⟨#[]⟩] 94 (0,0)):=by
  have q:=η (w.alloc (γ #[ι κ o,ι κ mm,τ s] 135)) (γ #[ι κ 0,ι κ 0,τ ⟨#[]⟩] 94);rw [ω] at q;exact q
 have hri:((w.alloc (γ #[ι κ o,ι κ mm,τ s] 135)).alloc (γ #[ι κ 0,ι κ 0,τ ⟨#[]⟩] 94)).heap[w.heap.size]?=ς (γ #[ι κ o,ι κ mm,τ s] 135 (0,0)):=AC (η w _) (AE _ _);obtain⟨b,off,rfl,x0,x1,x2,-⟩:=hX.later hbU 0 (by omega);simp only [Nat.zero_mul,Xm] at x0 x1 x2
 have i0_:(0:Int)<m:=by omega
 have in0_:0<m:=by omega
 have hz0:=hsz 0 (by omega);obtain⟨b9,off9,e9,y0,y1,y2,-⟩:=hX.later hbU 1 (by omega);obtain⟨rfl,rfl⟩:b=b9/\off=off9:=by simpa using e9
 clear e9;simp only [Nat.one_mul] at y0 y1 y2
 have i1_:(1:Int)<m:=by omega
 have in1_:1<m:=by omega
 have hz1:=hsz 1 (by omega);obtain⟨xo,xm,xs,hx⟩:∃ xo xm xs,X 0=⟨xo,xm,xs⟩:=⟨_,_,_,rfl⟩;rw [hx] at x0 x1 x2 hz0;simp only at x0 x1 x2 hz0
 obtain⟨yo,ym,ys,hy⟩:∃ yo ym ys,X 1=⟨yo,ym,ys⟩:=⟨_,_,_,rfl⟩;rw [hy] at y0 y1 y2 hz1;simp only at y0 y1 y2 hz1
 have HXY:Hid (X 0=⟨xo,xm,xs⟩/\X 1=⟨yo,ym,ys⟩):=⟨hx,hy⟩;have HT:Hid (GL ⟨o,mm,s⟩ (X 0) (X 1)=⟨1,Nt o xm ym,⟨#[]⟩⟩):=by
  show _=_
  have h5:o=4∨o=5∨o=6∨o=9∨o=10:=by omega
  rw [hx,hy];rcases h5 with rfl | rfl | rfl | rfl | rfl <;> simp [GL,DS,Nt,N6]
 clear hx hy e1 e2 e7 e8 e11 e12 e13 ha2;go_enter Tryz.func167,Tryz.ntmps167
 go_upto_region 16 with (fail)
 replace hrr:((w.alloc (γ #[ι κ o,ι κ mm,τ s] 135)).alloc (γ #[ι κ 0,ι κ 0,τ ⟨#[]⟩] 94)).drew.heap[w.heap.size+1]?=ς (γ #[ι κ 0,ι κ 0,τ ⟨#[]⟩] 94 (0,0)):=hrr;refine XO (S:=λx=>υ w.heap.size w x/\x.heap[w.heap.size]?=ς (γ #[ι κ o,ι κ mm,τ s] 135 (0,0))) (by kernel_rfl) (⟨AA hbU (CE _),hri⟩) (λjH=>?_);refine tk 0 (⟨ς 68,.fieldAddr 135 (δ 2) 0,0,"l5_replay.go:314",#[],ν⟩:Oper) (λx jS=>by go_simp<;>rfl) jH ?_
 try simp only [zS]
 refine tk 1 (⟨ς 69,.load 3 (δ 68),3,"l5_replay.go:314",#[⟨0,φ⟩],ν⟩:Oper) (λx jS=>by obtain⟨hs1,hs2⟩:=jS;obtain⟨k0,k1,k2,-⟩:=AX hs2;obtain⟨_,_,ea,l0,l1,l2,-⟩:=hX.later hs1 0 (by omega);obtain⟨_,_,eb,m0,m1,m2,-⟩:=hX.later hs1 1 (by omega);obtain⟨rfl,rfl⟩:=(by simpa using ea);obtain⟨rfl,rfl⟩:=(by simpa using eb);simp only [Nat.zero_mul,Nat.one_mul,Xm] at l0 l1 l2 m0 m1 m2;rw [HXY.out.1] at l0 l1 l2;rw [HXY.out.2] at m0 m1 m2;simp only at l0 l1 l2 m0 m1 m2;go_simp<;>rfl) jH ?_
 try simp only [zS]
 refine tk 2 (⟨ς 70,.move (δ 1),60,"l5_replay.go:314",#[],ν⟩:Oper) (λx jS=>by go_simp<;>rfl) jH ?_
 try simp only [zS]
 refine tk 3 (⟨ς 71,.indexAddr 60 (δ 70) (.const (ι κ 0)),0,"l5_replay.go:314",#[⟨2,φ⟩],ν⟩:Oper) (λx jS=>by go_simp<;>rfl) jH ?_
 try simp only [zS]
 refine tk 4 (⟨ς 72,.fieldAddr 94 (δ 71) 1,0,"l5_replay.go:314",#[⟨3,φ⟩],ν⟩:Oper) (λx jS=>by go_simp<;>rfl) jH ?_
 try simp only [zS]
 refine tk 5 (⟨ς 73,.load 3 (δ 72),3,"l5_replay.go:314",#[⟨4,φ⟩],ν⟩:Oper) (λx jS=>by obtain⟨hs1,hs2⟩:=jS;obtain⟨k0,k1,k2,-⟩:=AX hs2;obtain⟨_,_,ea,l0,l1,l2,-⟩:=hX.later hs1 0 (by omega);obtain⟨_,_,eb,m0,m1,m2,-⟩:=hX.later hs1 1 (by omega);obtain⟨rfl,rfl⟩:=(by simpa using ea);obtain⟨rfl,rfl⟩:=(by simpa using eb);simp only [Nat.zero_mul,Nat.one_mul,Xm] at l0 l1 l2 m0 m1 m2;rw [HXY.out.1] at l0 l1 l2;rw [HXY.out.2] at m0 m1 m2;simp only at l0 l1 l2 m0 m1 m2;go_simp<;>rfl) jH ?_
 try simp only [zS]
 refine tk 6 (⟨ς 74,.move (δ 1),60,"l5_replay.go:314",#[],ν⟩:Oper) (λx jS=>by go_simp<;>rfl) jH ?_
 try simp only [zS]
 refine tk 7 (⟨ς 75,.indexAddr 60 (δ 74) (.const (ι κ 1)),0,"l5_replay.go:314",#[⟨6,φ⟩],ν⟩:Oper) (λx jS=>by go_simp<;>rfl) jH ?_
 try simp only [zS]
 refine tk 8 (⟨ς 76,.fieldAddr 94 (δ 75) 1,0,"l5_replay.go:314",#[⟨7,φ⟩],ν⟩:Oper) (λx jS=>by go_simp<;>rfl) jH ?_
 try simp only [zS]
 refine tk 9 (⟨ς 77,.load 3 (δ 76),3,"l5_replay.go:314",#[⟨8,φ⟩],ν⟩:Oper) (λx jS=>by obtain⟨hs1,hs2⟩:=jS;obtain⟨k0,k1,k2,-⟩:=AX hs2;obtain⟨_,_,ea,l0,l1,l2,-⟩:=hX.later hs1 0 (by omega);obtain⟨_,_,eb,m0,m1,m2,-⟩:=hX.later hs1 1 (by omega);obtain⟨rfl,rfl⟩:=(by simpa using ea);obtain⟨rfl,rfl⟩:=(by simpa using eb);simp only [Nat.zero_mul,Nat.one_mul,Xm] at l0 l1 l2 m0 m1 m2;rw [HXY.out.1] at l0 l1 l2;rw [HXY.out.2] at m0 m1 m2;simp only at l0 l1 l2 m0 m1 m2;go_simp<;>rfl) jH ?_
 try simp only [zS]
 refine rd 10 (⟨ς 78,.call ⟨.value (.func 202),#[δ 69,δ 73,δ 77],#[3,3,3]⟩,3,"l5_replay.go:314",#[⟨1,φ⟩,⟨5,φ⟩,⟨9,φ⟩],ν⟩:Oper) (λK hK=>?_);go_simp;refine(WD o xm ym _).mono ?_;rintro e w1 ⟨rfl,rfl⟩;refine hK.out _ _ (jH) (λjH=>?_);clear hK K;try simp only [zS]
 refine rd 11 (⟨ς 79,.call ⟨.value (.func 185),#[δ 78],#[3]⟩,94,"l5_replay.go:314",#[⟨10,φ⟩,⟨10,.chain⟩],ν⟩:Oper) (λK hK=>?_);go_simp;refine(CN _ _).mono ?_;rintro e w6 ⟨rfl,hb6⟩;replace hrr:=AC hrr hb6;refine hK.out _ _ (⟨AA jH.1 hb6,AC jH.2 hb6⟩) (λjH=>?_);clear hK K;try simp only [zS]
 refine rd 12 (⟨ν,.store 94 (δ 4) (δ 79),0,"l5_replay.go:314",#[⟨11,φ⟩,⟨11,.chain⟩,⟨0,ξ⟩,⟨1,ξ⟩,⟨2,ξ⟩,⟨3,ξ⟩,⟨4,ξ⟩,⟨5,ξ⟩,⟨6,ξ⟩,⟨7,ξ⟩,⟨8,ξ⟩,⟨9,ξ⟩,⟨10,ξ⟩,⟨11,ξ⟩],ν⟩:Oper) (λK hK=>?_);obtain⟨g0_,g1_,g2_,gf0,gf1,gf2⟩:=AX hrr;go_simp;refine hK.out _ _ (⟨BB jH.1 (by omega) _ _ _,AS (AS (AS jH.2 (by omega)) (by omega)) (by omega)⟩) (λjH=>?_);clear hK K;try simp only [zS]
 refine XW (by kernel_rfl) ?_ _;go_wp2;refine XL (v:=χ #[ι κ 1,ι κ (Nt o xm ym),τ ⟨#[]⟩]) (Xd Tryz.results167 _ _ (w.heap.size+1) 94 _ (0,0) _ rfl (Cz hrr _ _ _) Tryz.underlying94 rfl (by kernel_rfl)) rfl ⟨by rw [HT.out],jH.1⟩
