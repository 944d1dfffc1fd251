import Derived.Test.YtfnfdllflgmhnaaGreatDoorUs
import Derived.Test.YtfnfdllflgmhnaaGreatDoorTj
import Derived.Test.YtfnfdllflgmhnaaGreatDoorTl
open Array renaming getElem?_eq_some_iff → XS
open Bool renaming and_eq_true → XV
open ByteArray renaming empty → XN
open Go renaming Calls → XR, Value → XU, World → ο, bodyPost_ret → XL, heap_alloc_new → η, heap_setCell_same → π, results_tmp2 → Xg, wpAnyH_done → XW, wpList_append_lies → XY, wp_region_held_drew → XO
open Go.Ending renaming returned → ρ
open Go.Ground renaming data → φ, phase → ξ
open Go.IntKind renaming i64 → κ
open Go.Obj renaming cells → γ
open Go.Op renaming bytesLess → Xh
open Go.Operand renaming tmp → δ
open Go.Proofs.Tryz renaming prog → μ
open Go.RowKit renaming Below → υ, intOf → XX
open Go.RowKit.Below renaming refl → Xa
open Go.Value renaming agg → χ, int → ι, slice → σ, string → τ, tuple → θ, bool → β
open Go.World renaming news_of_block → XP, ownsRow_made → Xb, size_alloc → ω
open List renaming length_append → XQ
open Nat renaming le_refl → XK, le_trans → Xe, not_lt_zero → Xj, zero_add → XT, zero_le → XZ
open Option renaming none → ν, some → ς
open Option.some renaming inj → XM
open Or renaming inl → Xc, inr → Xi
namespace Go.Proofs.YtfnfdllflgmhnaaGreatDoor
open Go.RowKit Go.Maps Go.WideMaps
set_option maxRecDepth 20000
set_option maxHeartbeats 16000000
abbrev Ut:Oper:=⟨ς 35,.call ⟨.value (.func 45),#[δ 32,δ 34],#[45,9]⟩,3,"l5_replay.go:385",#[⟨2,φ⟩,⟨4,φ⟩],ν⟩
abbrev Us:Oper:=⟨ς 9,.alloc 100,0,"l5_replay.go:385",#[],ν⟩
abbrev Ur:Oper:=⟨ς 36,.indexAddr 43 (δ 31) (δ 35),0,"l5_replay.go:385",#[⟨1,φ⟩,⟨5,φ⟩],ν⟩
abbrev Uq:Oper:=⟨ς 37,.load 100 (δ 36),100,"l5_replay.go:385",#[⟨6,φ⟩],ν⟩
abbrev Up:Oper:=⟨ν,.store 100 (δ 9) (δ 37),0,"l5_replay.go:385",#[⟨8,φ⟩,⟨7,φ⟩,⟨5,.chain⟩,⟨0,ξ⟩,⟨1,ξ⟩,⟨2,ξ⟩,⟨3,ξ⟩,⟨4,ξ⟩,⟨5,ξ⟩,⟨6,ξ⟩,⟨7,ξ⟩,⟨8,ξ⟩],ν⟩
def Iu(C:Nat->Clm)(n:Nat)(F:Nat->Itm)(m7:Nat->Nat)(O:Nat->Nat->Itm)(n7:Nat):Rw:=(n7,λi=>Cn C n F (O i) (m7 i))
def B7(C:Nat->Clm)(n:Nat)(F:Nat->Itm)(m7:Nat->Nat)(O:Nat->Nat->Itm):Nat->Bool
 | 0=>false
 | k+1=>B7 C n F m7 O k || decide (200<(Cn C n F (O k) (m7 k)).s.size)
theorem I3{C:Nat->Clm}{n:Nat}{F:Nat->Itm}{m7:Nat->Nat}{O:Nat->Nat->Itm}{k:Nat}(h:B7 C n F m7 O k=true):∀ r,k<=r->B7 C n F m7 O r=true:=by
 intro r hr;induction r with
 | zero=>
  obtain rfl:k=0:=by omega
  exact h
 | succ r ih=>
  by_cases e:k=r+1
  · subst e;exact h
  · rw [B7,ih (by omega)];rfl
def JU(C:Nat->Clm)(n:Nat)(R:Nat->Nat->Itm)(W:Nat->Itm)(n6:Nat)(m7:Nat->Nat)(O:Nat->Nat->Itm)(n7:Nat):Nat->List Rw
 | 0=>[]
 | k+1=>JU C n R W n6 m7 O n7 k ++ Ez (C5 C n (R k) W n6) (Iu C n (R k) m7 O n7)
def JV(C:Nat->Clm)(n:Nat)(R:Nat->Nat->Itm)(W:Nat->Itm)(n6:Nat)(m7:Nat->Nat)(O:Nat->Nat->Itm)(n7:Nat):Nat->Bool
 | 0=>false
 | k+1=>JV C n R W n6 m7 O n7 k || (C5 C n (R k) W n6 && B7 C n (R k) m7 O n7)
theorem Le{C:Nat->Clm}{n:Nat}{R:Nat->Nat->Itm}{W:Nat->Itm}{n6:Nat}{m7:Nat->Nat}{O:Nat->Nat->Itm}{n7 k:Nat}(h:JV C n R W n6 m7 O n7 k=true):∀ r,k<=r->JV C n R W n6 m7 O n7 r=true:=by
 intro r hr;induction r with
 | zero=>
  obtain rfl:k=0:=by omega
  exact h
 | succ r ih=>
  by_cases e:k=r+1
  · subst e;exact h
  · rw [JV,ih (by omega)];rfl
theorem Gr{C:Nat->Clm}{n:Nat}{R:Nat->Nat->Itm}{W:Nat->Itm}{n6:Nat}{m7:Nat->Nat}{O:Nat->Nat->Itm}{n7:Nat}:∀ {k:Nat},(JU C n R W n6 m7 O n7 k).length<=k
 | 0=>by simp [JU]
 | k+1=>by
  have ih:=Gr (C:=C) (n:=n) (R:=R) (W:=W) (n6:=n6) (m7:=m7) (O:=O) (n7:=n7) (k:=k);simp only [JU,XQ,Dz]
  split <;> omega
def Bg(n:Nat)(T:Nat->Td)(D:St):List Rw×Int:=
 if ¬D.k=5 then ([],7) else if ¬(E0 n T D).2=0 then ([],(E0 n T D).2)
 else match Bn T D.tb n with
  | none=>([],0)
  | some j=>if JV (T j).C (T j).n (T j).R D.W D.n6 D.m7 D.O D.n7 (T j).r=true then ([],6) else (JU (T j).C (T j).n (T j).R D.W D.n6 D.m7 D.O D.n7 (T j).r,0)
def W5(w:ο)(A:List Rw)(cd:Int)(e:Ending)(w':ο):Prop:=∃ a' c',e=ρ (θ #[σ a' A.length c',ι κ cd])/\OD (λb=>w.heap.size<=b) w' a' A/\υ w.heap.size w w'
theorem I2{n:Nat}{T:Nat->Td}{D:St}(hk:D.k=5)(h:(E0 n T D).2=0):∃ j,Bn T D.tb n=ς j/\j<n/\D9 (T j)=true/\AL D=true/\GE (T j).C (T j).n D.m7 D.O D.n7=0/\EO (T j).C (T j).n D.W D.n6=0:=by
 unfold E0 at h;split at h
 · simp at h
 rename_i h1
 split at h
 · simp at h
 rename_i h2
 rw [if_neg (by omega)] at h;rcases ht:Bn T D.tb n with _ | j
 · rw [ht] at h;simp at h
 ·
  rw [ht] at h;simp only at h
  rw [if_neg (by omega),if_neg (by omega),if_neg (by omega)] at h;simp only at h
  unfold JS at h;have hdb:CT n T=true:=by simpa using h1
  have hj:=(C9 ht).1;split at h
  ·
   rename_i h3
   exact⟨j,rfl,hj,(DO hdb).2 j hj,by simpa using h2,h3,h⟩
  ·
   rename_i h3
   exact absurd h h3
theorem I0{C:Nat->Clm}{n:Nat}{m:Nat->Nat}{O:Nat->Nat->Itm}:∀ {k:Nat},GE C n m O k=0->∀ j,j<k->(De C n (O j) (m j)).2=0
 | 0,_,j,hj=>by omega
 | k+1,h,j,hj=>by
  rw [GE] at h;split at h
  ·
   rename_i h1
   by_cases e:j=k
   · subst e;exact h
   · exact I0 h1 j (by omega)
  ·
   rename_i h1
   exact absurd h h1
theorem EE{W:ο}{R:Nat}{x0 x1 x2:XU}{t:TypeId}(h:W.heap[R]?=ς (γ #[x0,x1,x2] t (0,0)))(v0 v1 v2:XU):(((W.setCell ⟨R,0,ν⟩ v0).setCell ⟨R,1,ν⟩ v1).setCell ⟨R,2,ν⟩ v2).heap[R]?=ς (γ #[v0,v1,v2] t (0,0)):=
 π _ _ 2 _ _ v2 (π _ _ 1 _ _ v1 (π _ _ 0 _ _ v0 h))
theorem OZ(g n c:Nat)(T:Nat->Td)(k0:Int)(tb:ByteArray)(a2:Option Addr)(n2 c2:Nat)(a3:Option Addr)(n3 c3:Nat)(col:ByteArray)(a5:Option Addr)(n5 c5:Nat)(a6:Option Addr)(n6 c6:Nat)(a7:Option Addr)(n7 c7:Nat)(C:Nat->Clm)(V E W:Nat->Itm)(m7:Nat->Nat)(O:Nat->Nat->Itm)(D:St)(hD:(⟨k0,tb,n2,C,n3,V,col,n5,E,n6,W,n7,m7,O⟩:St)=D)(w:ο)(hT:TN w g n T)(hS:SM w ⟨k0,tb,n2,C,n3,V,col,n5,E,n6,W,n7,m7,O⟩ ⟨a2,c2,a3,c3,a5,c5,a6,c6,a7,c7⟩)(hn:n<=1048576)(hc2:n2<=c2) :
 XR μ 18 #[χ #[σ (ς ⟨g,0,ν⟩) n c],χ #[ι κ k0,τ tb,σ a2 n2 c2,σ a3 n3 c3,τ col,σ a5 n5 c5,σ a6 n6 c6,σ a7 n7 c7]] w (W5 w (Bg n T D).1 (Bg n T D).2):=by
 have hbU:υ w.heap.size w (((w.alloc (γ #[σ (ς ⟨g,0,ν⟩) n c] 45)).alloc (γ #[ι κ k0,τ tb,σ a2 n2 c2,σ a3 n3 c3,τ col,σ a5 n5 c5,σ a6 n6 c6,σ a7 n7 c7] 64)).alloc (γ #[] 60)):=A7 _ _ _ _;have hsU:(((w.alloc (γ #[σ (ς ⟨g,0,ν⟩) n c] 45)).alloc (γ #[ι κ k0,τ tb,σ a2 n2 c2,σ a3 n3 c3,τ col,σ a5 n5 c5,σ a6 n6 c6,σ a7 n7 c7] 64)).alloc (γ #[] 60)).heap.size=w.heap.size+3:=by rw [ω,ω,ω]
 have hq0:(((w.alloc (γ #[σ (ς ⟨g,0,ν⟩) n c] 45)).alloc (γ #[ι κ k0,τ tb,σ a2 n2 c2,σ a3 n3 c3,τ col,σ a5 n5 c5,σ a6 n6 c6,σ a7 n7 c7] 64)).alloc (γ #[] 60)).heap[w.heap.size]?=ς (γ #[σ (ς ⟨g,0,ν⟩) n c] 45 (0,0)):=AC (AC (η w _) (AE _ _)) (AE _ _);have hq1:(((w.alloc (γ #[σ (ς ⟨g,0,ν⟩) n c] 45)).alloc (γ #[ι κ k0,τ tb,σ a2 n2 c2,σ a3 n3 c3,τ col,σ a5 n5 c5,σ a6 n6 c6,σ a7 n7 c7] 64)).alloc (γ #[] 60)).heap[w.heap.size+1]?=ς (γ #[ι κ k0,τ tb,σ a2 n2 c2,σ a3 n3 c3,τ col,σ a5 n5 c5,σ a6 n6 c6,σ a7 n7 c7] 64 (0,0)):=by
  have q:=η (w.alloc (γ #[σ (ς ⟨g,0,ν⟩) n c] 45)) (γ #[ι κ k0,τ tb,σ a2 n2 c2,σ a3 n3 c3,τ col,σ a5 n5 c5,σ a6 n6 c6,σ a7 n7 c7] 64);rw [ω] at q;exact AC q (AE _ _)
 have hOE:(((w.alloc (γ #[σ (ς ⟨g,0,ν⟩) n c] 45)).alloc (γ #[ι κ k0,τ tb,σ a2 n2 c2,σ a3 n3 c3,τ col,σ a5 n5 c5,σ a6 n6 c6,σ a7 n7 c7] 64)).alloc (γ #[] 60)).ownsRow (w.heap.size+1+1) 60 1 (σ (ς ⟨w.heap.size+1+1,0,ν⟩) 0 0) 0 []:=by
  have q:=Xb (base:=w.heap.size+1+1) (e:=60) (size:=1) ((w.alloc (γ #[σ (ς ⟨g,0,ν⟩) n c] 45)).alloc (γ #[ι κ k0,τ tb,σ a2 n2 c2,σ a3 n3 c3,τ col,σ a5 n5 c5,σ a6 n6 c6,σ a7 n7 c7] 64)) #[] 0 (by rw [ω,ω];exact XK _) (by unfold maxLen;omega) rfl;rw [ω,ω] at q;exact q
 obtain⟨c0,-⟩:=AN hq0;obtain⟨d0_,d1_,d2_,d3_,d4_,d5_,d6_,d7_⟩:=Ak hq1;obtain⟨AP,cd,hap⟩:∃ A cd,E0 n T D=(A,cd):=⟨_,_,rfl⟩;have HAP:Hid (XR μ 44 #[χ #[σ (ς ⟨g,0,ν⟩) n c],χ #[ι κ k0,τ tb,σ a2 n2 c2,σ a3 n3 c3,τ col,σ a5 n5 c5,σ a6 n6 c6,σ a7 n7 c7]] (((w.alloc (γ #[σ (ς ⟨g,0,ν⟩) n c] 45)).alloc (γ #[ι κ k0,τ tb,σ a2 n2 c2,σ a3 n3 c3,τ col,σ a5 n5 c5,σ a6 n6 c6,σ a7 n7 c7] 64)).alloc (γ #[] 60)) (LN (((w.alloc (γ #[σ (ς ⟨g,0,ν⟩) n c] 45)).alloc (γ #[ι κ k0,τ tb,σ a2 n2 c2,σ a3 n3 c3,τ col,σ a5 n5 c5,σ a6 n6 c6,σ a7 n7 c7] 64)).alloc (γ #[] 60)) AP cd)):=by
  have:=Oe g n c T k0 tb a2 n2 c2 a3 n3 c3 col a5 n5 c5 a6 n6 c6 a7 n7 c7 C V E W m7 O D hD (((w.alloc (γ #[σ (ς ⟨g,0,ν⟩) n c] 45)).alloc (γ #[ι κ k0,τ tb,σ a2 n2 c2,σ a3 n3 c3,τ col,σ a5 n5 c5,σ a6 n6 c6,σ a7 n7 c7] 64)).alloc (γ #[] 60)) (hT.later hbU) (hS.later hbU) hn hc2;rwa [hap] at this
 have HD:Hid ((⟨k0,tb,n2,C,n3,V,col,n5,E,n6,W,n7,m7,O⟩:St)=D):=hD;have HPP:Hid (E0 n T D=(AP,cd)):=hap;clear hD hap;by_cases hk:k0=5
 rotate_left
 ·
  have nk:(k0 != 5)=true:=by simpa using hk
  have HA:Hid (Bg n T D=([],7)):=by show _=_;unfold Bg;rw [if_pos (by rw [←HD.out];exact hk)]
  clear hk;go_enter Tryz.func18,Tryz.ntmps18
  go_wp2_with (first | (go_at_call 44;refine(HAP.out).mono ?_;rintro e w1 ⟨a8,c8,rfl,-,hb1⟩;have hB1:=AA hbU hb1;have hss1:=hb1.size;have x0:=AC hq0 hb1;have x1:=AC hq1 hb1;have hx9:=AE w1 (γ #[σ a8 AP.length c8] 45);have hbx:=AA hB1 hx9;have y0:=AC x0 hx9;have y1:=AC x1 hx9;obtain⟨ya,-⟩:=AN y0;obtain⟨yb0,yb1,yb2,yb3,yb4,yb5,yb6,yb7⟩:=Ak y1))
  refine XL (Xg rfl _ _ _) rfl ?_;rw [HA.out];exact⟨_,_,rfl,λk hk=>absurd hk (Xj k),hbx⟩
 subst hk;by_cases he:cd=0
 rotate_left
 ·
  have ne:(cd != 0)=true:=by simpa using he
  have HA:Hid (Bg n T D=([],cd)):=by show _=_;unfold Bg;rw [if_neg (by rw [←HD.out];simp),HPP.out,if_pos he]
  clear he;go_enter Tryz.func18,Tryz.ntmps18
  go_wp2_with (first | (go_at_call 44;refine(HAP.out).mono ?_;rintro e w1 ⟨a8,c8,rfl,-,hb1⟩;have hB1:=AA hbU hb1;have hss1:=hb1.size;have x0:=AC hq0 hb1;have x1:=AC hq1 hb1;have hx9:=AE w1 (γ #[σ a8 AP.length c8] 45);have hbx:=AA hB1 hx9;have y0:=AC x0 hx9;have y1:=AC x1 hx9;obtain⟨ya,-⟩:=AN y0;obtain⟨yb0,yb1,yb2,yb3,yb4,yb5,yb6,yb7⟩:=Ak y1))
  refine XL (Xg rfl _ _ _) rfl ?_;rw [HA.out];exact⟨_,_,rfl,λk hk=>absurd hk (Xj k),hbx⟩
 subst he;obtain⟨j,htj,hj,hokj,hokS,hso,hcw⟩:=I2 (n:=n) (T:=T) (D:=D) (by rw [←HD.out]) (by rw [HPP.out]);rw [←HD.out] at htj hso hcw;simp only at htj hso hcw
 obtain⟨h7a,h7b,h7c,h7d⟩:=Ja hokS (by rw [←HD.out]);rw [←HD.out] at h7a h7b h7c h7d;simp only at h7a h7b h7c h7d
 obtain⟨g1,g2,cr,e0,e1,e2,hcr,hCt,hRt,hSt⟩:=hT j hj;have hNt:=Cd hokj;have HSE0:Bg n T D=if JV (T j).C (T j).n (T j).R W n6 m7 O n7 (T j).r=true then ([],6) else (JU (T j).C (T j).n (T j).R W n6 m7 O n7 (T j).r,0):=by
  unfold Bg;rw [if_neg (by rw [←HD.out];simp),HPP.out,if_neg (by simp),←HD.out];simp only
  rw [htj]
 obtain⟨ds,dn,dC,dr,dm,dR,hTj⟩:∃ s nc C r m R,T j=⟨s,nc,C,r,m,R⟩:=⟨_,_,_,_,_,_,rfl⟩;rw [hTj] at e0 e1 e2 hcr hCt hRt hSt hNt hso hcw HSE0;simp only at e0 e1 e2 hcr hCt hRt hNt hso hcw HSE0
 have HSE:Hid (Bg n T D=if JV dC dn dR W n6 m7 O n7 dr=true then ([],6) else (JU dC dn dR W n6 m7 O n7 dr,0)):=HSE0
 have HN:Hid (Nice dn dr dm dR):=hNt;have HEX:Hid (∀ i,i<n7->Ag (O i) (m7 i)=true/\(ck dC dn (O i) (m7 i)).2=0):=λi hi=>⟨h7c i hi,Hl (I0 hso i hi)⟩;have HWH:Hid (AR W n6=true/\EO dC dn W n6=0):=⟨h7d,hcw⟩;have hn1:=hNt.n1;have hn0:=hNt.n0;have hr1:=hNt.r1;have HTJ:Hid (∀ W',υ w.heap.size w W'->XR μ 45 #[χ #[σ (ς ⟨g,0,ν⟩) n c],τ tb] W' (λe w'=>e=ρ (ι κ j)/\υ W'.heap.size W' w')):=λW' hW'=>by
  have:=Fq (ς ⟨g,0,ν⟩) n c T tb W' (hT.tl.later hW') hn;rwa [htj] at this
 clear HSE0 hTj hNt h7c h7d hso hcw htj hokj hokS;have hjn:(j:Int)<n:=by omega
 have hj0:(0:Int)<=j:=by omega
 obtain⟨jr,hir,hzr0,hzr1,hzr2⟩:=info_parts Tryz.infoRow;have HIr:Hid (Tryz.prog.info? 60=ς jr):=hir;obtain⟨j3,hi3,hz30,hz31,hz32⟩:=info_parts Tryz.infoVal;have HI3:Hid (Tryz.prog.info? 94=ς j3):=hi3;clear hir hi3;go_enter Tryz.func18,Tryz.ntmps18
 go_upto_region 7 with (first | (go_at_call 44;refine(HAP.out).mono ?_;rintro e w1 ⟨a8,c8,rfl,-,hb1⟩;have hB1:=AA hbU hb1;have hss1:=hb1.size;have x0:=AC hq0 hb1;have x1:=AC hq1 hb1;have hx9:=AE w1 (γ #[σ a8 AP.length c8] 45);have hbx:=AA hB1 hx9;have y0:=AC x0 hx9;have y1:=AC x1 hx9;obtain⟨ya,-⟩:=AN y0;obtain⟨yb0,yb1,yb2,yb3,yb4,yb5,yb6,yb7⟩:=Ak y1))
 have hOE2:=AH hOE (AA hb1 hx9);have hs2:w.heap.size+4<=(w1.alloc (γ #[σ a8 AP.length c8] 45)).heap.size:=by rw [ω];omega
 clear ya yb0 yb1 yb2 yb3 yb4 yb5 yb6 yb7 x0 x1;generalize w1.alloc (γ #[σ a8 AP.length c8] 45)=w2 at hbx y0 y1 hOE2 hs2 ⊢;clear hx9 hB1 hss1 hb1 hOE;refine XO (S:=λx=>υ w2.heap.size w2 x) (by kernel_rfl) (CE _) (λjH=>?_);generalize w2.drew=v at jH ⊢;refine tk 0 (⟨ς 30,.fieldAddr 45 (δ 2) 0,0,"l5_replay.go:385",#[],ν⟩:Oper) (λx jS=>by go_simp<;>rfl) jH ?_
 try simp only [zS]
 refine tk 1 (⟨ς 31,.load 43 (δ 30),43,"l5_replay.go:385",#[⟨0,φ⟩],ν⟩:Oper) (λx jS=>by have k0:=(AN (AC y0 jS)).1;have k1:=(Ak (AC y1 jS)).2.1;have k2:=AB (AA hbx jS) e0;have k3:=AB (AA hbx jS) e1;have k4:=AB (AA hbx jS) e2;go_simp<;>rfl) jH ?_
 try simp only [zS]
 refine tk 2 (⟨ς 32,.load 45 (δ 2),45,"l5_replay.go:385",#[],ν⟩:Oper) (λx jS=>by have k0:=(AN (AC y0 jS)).1;have k1:=(Ak (AC y1 jS)).2.1;have k2:=AB (AA hbx jS) e0;have k3:=AB (AA hbx jS) e1;have k4:=AB (AA hbx jS) e2;go_simp<;>rfl) jH ?_
 try simp only [zS]
 refine tk 3 (⟨ς 33,.fieldAddr 64 (δ 3) 1,0,"l5_replay.go:385",#[],ν⟩:Oper) (λx jS=>by go_simp<;>rfl) jH ?_
 try simp only [zS]
 refine tk 4 (⟨ς 34,.load 9 (δ 33),9,"l5_replay.go:385",#[⟨3,φ⟩],ν⟩:Oper) (λx jS=>by have k0:=(AN (AC y0 jS)).1;have k1:=(Ak (AC y1 jS)).2.1;have k2:=AB (AA hbx jS) e0;have k3:=AB (AA hbx jS) e1;have k4:=AB (AA hbx jS) e2;go_simp<;>rfl) jH ?_
 try simp only [zS]
 refine wpAnyH_ready (rs:=[5,8]) (by kernel_rfl) (by simp) ?_;refine(AllReadyH.cons (o:=Ut) rfl (λK hK=>?w1_c2) (AllReadyH.cons (o:=Us) rfl (λK hK=>?w1_c1) AllReadyH.nil));case' w1_c2=>
  go_simp;refine(HTJ.out _ (AA hbx jH)).mono ?_;rintro e v ⟨rfl,hb5⟩;refine hK.out _ _ (AA jH hb5) (λjH=>?_);clear hK K;try simp only [zS]
  clear hb5;refine tk 6 Ur (λx jS=>by go_simp<;>rfl) jH ?_
  try simp only [zS]
  refine tk 7 Uq (λx jS=>by have k0:=(AN (AC y0 jS)).1;have k1:=(Ak (AC y1 jS)).2.1;have k2:=AB (AA hbx jS) e0;have k3:=AB (AA hbx jS) e1;have k4:=AB (AA hbx jS) e2;go_simp<;>rfl) jH ?_
  try simp only [zS]
  refine rd 8 Us (λK hK=>?_);have hqT:=η v (γ #[τ ⟨#[]⟩,σ ν 0 0,σ ν 0 0] 100);have hbT:=AE v (γ #[τ ⟨#[]⟩,σ ν 0 0,σ ν 0 0] 100);have hsT:=jH.size;go_simp;refine hK.out _ _ (AA jH (AE _ _)) (λjH=>?_);clear hK K;try simp only [zS]
  generalize v.heap.size=BT at hqT hsT ⊢;generalize v.alloc (γ #[τ ⟨#[]⟩,σ ν 0 0,σ ν 0 0] 100)=v at hqT hbT  jH ⊢;clear hbT;refine rd 9 Up (λK hK=>?_);obtain⟨s0_,s1_,s2_,sf0_,sf1_,sf2_⟩:=AX hqT;go_simp;refine hK.out _ _ (BB jH hsT _ _ _) (λjH=>?_);clear hK K s0_ s1_ s2_ sf0_ sf1_ sf2_;try simp only [zS]
  replace hqT:=EE hqT (τ ds) (σ (ς ⟨g1,0,ν⟩) dn dn) (σ (ς ⟨g2,0,ν⟩) dr cr);refine XW (by kernel_rfl) ?_ _
 case' w1_c1=>
  have hqT:=η v (γ #[τ ⟨#[]⟩,σ ν 0 0,σ ν 0 0] 100);have hbT:=AE v (γ #[τ ⟨#[]⟩,σ ν 0 0,σ ν 0 0] 100);have hsT:=jH.size;go_simp;refine hK.out _ _ (AA jH (AE _ _)) (λjH=>?_);clear hK K;try simp only [zS]
  generalize v.heap.size=BT at hqT hsT ⊢;generalize v.alloc (γ #[τ ⟨#[]⟩,σ ν 0 0,σ ν 0 0] 100)=v at hqT hbT  jH ⊢;clear hbT;refine rd 5 Ut (λK hK=>?_);go_simp;refine(HTJ.out _ (AA hbx jH)).mono ?_;rintro e v ⟨rfl,hb5⟩;refine hK.out _ _ (AA jH hb5) (λjH=>?_);clear hK K;try simp only [zS]
  replace hqT:=AC hqT hb5;clear hb5;refine tk 6 Ur (λx jS=>by go_simp<;>rfl) jH ?_
  try simp only [zS]
  refine tk 7 Uq (λx jS=>by have k0:=(AN (AC y0 jS)).1;have k1:=(Ak (AC y1 jS)).2.1;have k2:=AB (AA hbx jS) e0;have k3:=AB (AA hbx jS) e1;have k4:=AB (AA hbx jS) e2;go_simp<;>rfl) jH ?_
  try simp only [zS]
  refine rd 9 Up (λK hK=>?_);obtain⟨s0_,s1_,s2_,sf0_,sf1_,sf2_⟩:=AX hqT;go_simp;refine hK.out _ _ (BB jH hsT _ _ _) (λjH=>?_);clear hK K s0_ s1_ s2_ sf0_ sf1_ sf2_;try simp only [zS]
  replace hqT:=EE hqT (τ ds) (σ (ς ⟨g1,0,ν⟩) dn dn) (σ (ς ⟨g2,0,ν⟩) dr cr);refine XW (by kernel_rfl) ?_ _
 all_goals
  generalize (((v.setCell ⟨BT,0,ν⟩ (τ ds)).setCell ⟨BT,1,ν⟩ (σ (ς ⟨g1,0,ν⟩) dn dn)).setCell ⟨BT,2,ν⟩ (σ (ς ⟨g2,0,ν⟩) dr cr))=w4 at hqT jH ⊢;have hb4:=AA hbx jH;have hOE4:=AH hOE2 jH;have z1:=AC y1 jH;have hs4:w.heap.size+4<=w4.heap.size:=Xe hs2 jH.size;obtain⟨t0_,t1_,t2_,-⟩:=AX hqT;have hBT:w.heap.size+4<=BT/\BT<w4.heap.size:=⟨Xe hs2 hsT,(XS.1 hqT).1⟩;clear jH hOE2 y0 y1;go_wp2;go_loopw [6,11,12,14,15,41] (λv _ _ _ _ i wr=>∃ (k:Nat) (A:List Rw) (gg cap:Nat) (f:Nat->List XU),k<=dr/\i=ι κ k/\v=σ (ς ⟨gg,0,ν⟩) A.length cap/\JU dC dn dR W n6 m7 O n7 k=A/\JV dC dn dR W n6 m7 O n7 k=false/\RO (w.heap.size+1+1) (λb=>w4.heap.size<=b) wr (σ (ς ⟨gg,0,ν⟩) A.length cap) A.length (λi=>A.getD i _root_.Go.Proofs.YtfnfdllflgmhnaaGreatDoor.r0) f/\gg≠BT/\wr.heap[w.heap.size+1]?=ς (γ #[ι κ 5,τ tb,σ a2 n2 c2,σ a3 n3 c3,τ col,σ a5 n5 c5,σ a6 n6 c6,σ a7 n7 c7] 64 (0,0))/\wr.heap[BT]?=ς (γ #[τ ds,σ (ς ⟨g1,0,ν⟩) dn dn,σ (ς ⟨g2,0,ν⟩) dr cr] 100 (0,0))/\υ w.heap.size w wr/\w4.heap.size<=wr.heap.size) (λ_ _ _ _ _ i _=>dr - (XX i).toNat)
  case atStart=>exact⟨0,[],w.heap.size+1+1,0,λ_=>[],XZ _,rfl,rfl,rfl,rfl,GO.nil hOE4,by omega,z1,hqT,hb4,XK _⟩
  case round=>
   obtain⟨k,A,gg,cap,f,hk,rfl,rfl,hse,hsg,hRO,hgb,q1,qt,hbw,hsr⟩:=hrel;have HSS:Hid (JU dC dn dR W n6 m7 O n7 k=A/\JV dC dn dR W n6 m7 O n7 k=false):=⟨hse,hsg⟩;have hAl:A.length<=1000000:=by rw [←hse];have:=Gr (C:=dC) (n:=dn) (R:=dR) (W:=W) (n6:=n6) (m7:=m7) (O:=O) (n7:=n7) (k:=k);omega
   clear hse hsg;have hgl:=hRO.own.lt gg rfl;obtain⟨-,-,-,-,-,-,qw,qo⟩:=Ak q1;obtain⟨qt0,qt1,qt2,-⟩:=AX qt;by_cases hlt:k<dr
   rotate_left
   ·
    obtain rfl:k=dr:=by omega
    have HA:Hid (Bg n T D=(A,0)):=by show _=_;rw [HSE.out,HSS.out.1,HSS.out.2,if_neg (by simp)]
    obtain⟨a',c',e',hOD⟩:=RO.od (D':=λb=>w.heap.size<=b) hRO (λb h=>by omega) (λb h=>by omega);obtain⟨rfl,rfl⟩:ς ⟨gg,0,ν⟩=a'/\cap=c':=by simpa using e'
    go_wp2;refine XL (Xg rfl _ _ _) rfl ?_;rw [HA.out];exact⟨_,_,rfl,hOD,hbw⟩
   obtain⟨bR,offR,ai,ci,eR,d1,-,hI⟩:=ER.of hRt hlt;obtain⟨rfl,rfl⟩:g2=bR/\0=offR:=by simpa using eR
   have hmk:=HN.out.len k hlt;have d2:=AB hbw d1;rw [hmk,XT] at d2;rw [hmk] at hI;clear hmk d1 eR;obtain⟨br,offr,rfl,-⟩:=hI 0 hn0;have hkr:(k:Int)<dr:=by omega
   have HTX:Hid (∀ j,j<dn->(dR k j).s.size<=200):=HN.out.txt k hlt;obtain⟨fb,hfb⟩:∃ fb,C5 dC dn (dR k) W n6=fb:=⟨_,rfl⟩;have HFT:=Lh (ς ⟨g1,0,ν⟩) dn dn dC (ς ⟨br,offr,ν⟩) ci (dR k) a6 n6 c6 W wr (hCt.later hbw) (hI.later hbw) (hS.wh.later hbw) hn1 HWH.out.1 HWH.out.2 HTX.out;rw [hfb] at HFT;have HST:Hid (JU dC dn dR W n6 m7 O n7 (k+1)=A ++ Ez fb (Iu dC dn (dR k) m7 O n7)/\JV dC dn dR W n6 m7 O n7 (k+1)=(fb && B7 dC dn (dR k) m7 O n7)):=by
    refine⟨?_,?_⟩
    · rw [JU,HSS.out.1,hfb]
    · rw [JV,HSS.out.2,hfb];rfl
   clear hfb;cases fb
   ·
    go_wp2_with (go_at_call 46;refine HFT.mono ?_;rintro e w5 ⟨rfl,hb5⟩)
    go_roundw
    case rel=>exact⟨k+1,A,gg,cap,f,by omega,by go_num,rfl,by rw [HST.out.1];simp [Ez],by rw [HST.out.2];rfl,hRO.later hb5,hgb,AC q1 hb5,AC qt hb5,AA hbw hb5,Xe hsr hb5.size⟩
    case measure=>simp [XX];omega
   have HVL:Hid (∀ i,i<n7->∀ aO cO W',IL W' aO (m7 i) (O i)->υ w.heap.size w W'->XR μ 47 #[σ (ς ⟨g1,0,ν⟩) dn dn,σ (ς ⟨br,offr,ν⟩) dn ci,σ aO (m7 i) cO] W' (λe w'=>e=ρ (χ #[ι κ (Cn dC dn (dR k) (O i) (m7 i)).o,ι κ (Cn dC dn (dR k) (O i) (m7 i)).m,τ (Cn dC dn (dR k) (O i) (m7 i)).s])/\υ W'.heap.size W' w')):=λi hi aO cO W' hIO hW'=>by
    obtain⟨ho,hc⟩:=HEX.out i hi;obtain⟨x1,x2,x3⟩:=CK ho;exact Lf _ dn dn dC _ ci (dR k) aO (m7 i) cO (O i) W' (hCt.later hW') (hI.later hW') hIO hn1 x1 x3 hc HTX.out
   have HVX:Hid (∀ i,i<n7->(Cn dC dn (dR k) (O i) (m7 i)).s.size<=1048576):=λi hi=>by
    obtain⟨ho,-⟩:=HEX.out i hi;obtain⟨x1,x2,x3⟩:=CK ho;exact Fi HTX.out x3 x1 x2
   obtain⟨wo,hwo⟩:∃ v,v=wr:=⟨_,rfl⟩;subst hwo;go_wp2_with (go_at_call 46;refine HFT.mono ?_;rintro e w5 ⟨rfl,hb5⟩;have x1:=AC q1 hb5;have xt:=AC qt hb5;obtain⟨-,-,-,-,-,-,-,xo⟩:=Ak (AC x1 (AE w5 (γ #[] 94))))
   have hbw5:=AA hbw hb5;have hss5:=hb5.size;have hOV:(w5.alloc (γ #[] 94)).ownsRow w5.heap.size 94 3 (σ (ς ⟨w5.heap.size,0,ν⟩) 0 0) 0 (CH (λi=>v3 (Cn dC dn (dR k) (O i) (m7 i))) 0):=Xb w5 #[] 0 (XK _) (by unfold maxLen;omega) rfl;go_loopw [12,14,15,55] (λv _ _ i wr=>∃ (q gv capv:Nat),q<=n7/\i=ι κ q/\v=σ (ς ⟨gv,0,ν⟩) q capv/\wr.ownsRow w5.heap.size 94 3 (σ (ς ⟨gv,0,ν⟩) q capv) q (CH (λi=>v3 (Cn dC dn (dR k) (O i) (m7 i))) q)/\B7 dC dn (dR k) m7 O q=false/\υ w5.heap.size w5 wr) (λ_ _ _ i _=>n7 - (XX i).toNat)
   case atStart=>exact⟨0,w5.heap.size,0,XZ _,rfl,rfl,hOV,rfl,AE _ _⟩
   case round=>
    obtain⟨q,gv,capv,hq,rfl,rfl,hOq,hbig,hbr⟩:=hrel;have HBG:Hid (B7 dC dn (dR k) m7 O q=false):=hbig;clear hbig;have hbwr:=AA hbw5 hbr;have hssr:=hbr.size;have p1:=AC x1 hbr;have pt:=AC xt hbr;obtain⟨pt0,pt1,pt2,-⟩:=AX pt;have hglv:=hOq.lt gv rfl;by_cases hql:q<n7
    ·
     obtain⟨bO,offO,aO,cO,rfl,dO,hIO,-⟩:=hS.ou.later hbwr q hql;simp only at dO hIO
     have hqn:(q:Int)<n7:=by omega
     have HV:=HVL.out q hql aO cO wr hIO hbwr;have hvx:=HVX.out q hql;obtain⟨xo_,xm,xs,hx⟩:∃ xo xm xs,Cn dC dn (dR k) (O q) (m7 q)=⟨xo,xm,xs⟩:=⟨_,_,_,rfl⟩;have HX:Hid (Cn dC dn (dR k) (O q) (m7 q)=⟨xo_,xm,xs⟩):=hx;have HNX:Hid (B7 dC dn (dR k) m7 O (q+1)=decide (200<xs.size)):=by show _=_;rw [B7,HBG.out,hx];rfl
     rw [hx] at HV hvx;simp only at HV hvx
     clear hx;by_cases hb200:200<xs.size
     ·
      have hb2:(200:Int)<xs.size:=by omega
      have HA:Hid (Bg n T D=([],6)):=by
       show _=_
       rw [HSE.out,if_pos (Le (k:=k+1) (by rw [HST.out.2,I3 (k:=q+1) (by rw [HNX.out];simpa using hb200) n7 (by omega)];rfl) dr (by omega))]
      go_wp2_with (go_at_call 47;refine HV.mono ?_;rintro e w6 ⟨rfl,hb6⟩)
      refine XL (Xg rfl _ _ _) rfl ?_;rw [HA.out];exact⟨_,_,rfl,λk hk=>absurd hk (Xj k),AA (AA hbwr hb6) (AA (AE _ _) (AE _ _))⟩
     ·
      have hb2:¬(200:Int)<xs.size:=by omega
      go_wp2_with (first | (at_builtin;have _h:=hO6;refine XY _ rfl _ _ _ rfl w5.heap.size 94 j3 (χ #[ι κ 0,ι κ 0,τ XN]) 3 32 Tryz.underlying60 HI3.out hz30 hz31 hz32 rfl (by omega) (σ (ς ⟨gv,0,ν⟩) q capv) q _ rfl (hO6.alloc _) ⟨w6.heap.size+1,0,ν⟩ 1 1 [ι κ xo_,ι κ xm,τ xs] rfl rfl (FI (ω _ _)) (FH rfl rfl rfl) (by omega) (by unfold maxLen;omega) (by omega) (by simp;omega) _ rfl ?_;intro g8 cap8 w8 hO8 hgr8 hat8 hlt8) | (go_at_call 47;refine HV.mono ?_;rintro e w6 ⟨rfl,hb6⟩;have hss6:=hb6.size;have hO6:=AH hOq (AA hb6 (AE w6 (γ #[ι κ xo_,ι κ xm,τ xs] 94)));have hB6:=AX (η w6 (γ #[ι κ xo_,ι κ xm,τ xs] 94));obtain⟨u0,u1,u2,-⟩:=hB6))
      have hb8:=gB (AA (AA hbr hb6) (AA (AE _ _) (AE _ _))) (r:=gv) hgr8 hglv.1;go_roundw
      case rel=>exact⟨q+1,g8,cap8,by omega,by go_num,rfl,by rw [Cl,HX.out];exact hO8,by rw [HNX.out];simpa using hb200,hb8⟩
      case measure=>simp [XX];omega
    ·
     obtain rfl:q=n7:=by omega
     have hROr:=hRO.later (AA hb5 hbr);have hIL:=E5 hOq HVX.out;go_wp2_with (first | (at_builtin;refine XY _ rfl _ _ _ rfl (w.heap.size+1+1) 60 jr (σ ν 0 0) 1 24 Tryz.underlying36 HIr.out hzr0 hzr1 hzr2 rfl (by omega) (σ (ς ⟨gg,0,ν⟩) A.length cap) A.length (CH f A.length) rfl (hROr.later (AE _ _)).own ⟨wr.heap.size,0,ν⟩ 1 1 [σ (ς ⟨gv,0,ν⟩) q capv] rfl rfl (XP (η wr _)) (Bu _ rfl) (by omega) (by unfold maxLen;omega) (by omega) (by simp;omega) _ rfl ?_;intro g8 cap8 w8 hO8 hgr8 hat8 hlt8))
     have hLt:Liv (λb=>w4.heap.size<=b/\ς b≠(σ (ς ⟨gg,0,ν⟩) A.length cap).ownBlock) wr (ER [σ (ς ⟨gv,0,ν⟩) q capv] (Iu dC dn (dR k) m7 O q)):=(hIL.liv (λb off e=>by
      obtain⟨rfl,-⟩:gv=b/\0=off:=by simpa using e
      refine⟨by omega,?_⟩;show ς gv≠ς gg
      intro e2;have e3:gv=gg:=XM e2;omega)).imp (λ_ h=>⟨_,_,rfl,h,by show q<=_;omega⟩)
     have hP:=GO.snoc (x:=Iu dC dn (dR k) m7 O q) (hROr.later (AE _ _)) (c:=[σ (ς ⟨gv,0,ν⟩) q capv]) rfl (hLt.later (AE _ _)) hO8 hgr8 hat8;have eA:(A ++ [Iu dC dn (dR k) m7 O q]).length=A.length+1:=by simp
     have hne:∀ b,b≠gg->ς b≠(σ (ς ⟨gg,0,ν⟩) A.length cap).ownBlock:=λb hb=>by
      show ς b≠ς gg
      intro e2;exact hb (XM e2)
     go_roundw
     case rel=>exact⟨k+1,A ++ [Iu dC dn (dR k) m7 O q],g8,cap8,_,by omega,by go_num,by rw [eA],by rw [HST.out.1];rfl,by rw [HST.out.2,HBG.out];rfl,hP,by
      rcases hat8 with e2 | e2
      · have e3:gg=g8:=XM e2;omega
      · rw [ω] at e2;omega,B9 (AC p1 (AE _ _)) hgr8 (hne _ (by omega)),B9 (AC pt (AE _ _)) hgr8 (hne _ (by omega)),Ik (AA hbwr (AE _ _)) hgr8 (λx hx=>hne _ (by omega)),Xe hsr (Xe hss5 (Xe hssr (Xe (AE _ _).size hgr8.size)))⟩
     case measure=>simp [XX];omega
set_option maxHeartbeats 4000000
theorem DP(x:List UInt8):Xh x x=false:=by
 induction x with
 | nil=>rfl
 | cons a x ih=>simp [Xh,ih]
theorem Fu(x y z:List UInt8)(h1:Xh x y=true)(h2:Xh y z=true):Xh x z=true:=by
 induction x generalizing y z with
 | nil=>
  cases z with
  | nil=>cases y <;> simp [Xh] at h2
  | cons c z=>rfl
 | cons a x ih=>
  cases y with
  | nil=>simp [Xh] at h1
  | cons b y=>
   cases z with
   | nil=>simp [Xh] at h2
   | cons c z=>
    simp only [Xh,Bool.or_eq_true,decide_eq_true_eq,XV,beq_iff_eq] at h1 h2 ⊢
    rcases h1 with h1 | ⟨rfl,h1⟩
    ·
     rcases h2 with h2 | ⟨rfl,h2⟩
     · exact Xc (UInt8.lt_trans h1 h2)
     · exact Xc h1
    ·
     rcases h2 with h2 | ⟨rfl,h2⟩
     · exact Xc h2
     · exact Xi ⟨rfl,ih y z h1 h2⟩
def EB(a b:ByteArray):Int:=if Xh a.toList b.toList then -1 else if a=b then 0 else 1
theorem NP(a b:ByteArray)(w:ο):XR μ 160 #[τ a,τ b] w λe w'=>e=ρ (ι κ (EB a b))/\w'=w:=by
 have hq:=Tb a b;rcases hl:Xh a.toList b.toList
 ·
  by_cases he:a=b
  ·
   have hq1:(a.toList == b.toList)=true:=by rw [hq];simp [he]
   have hc:Hid (EB a b=0):=by show _=_;unfold EB;rw [hl,if_neg (by simp),if_pos he]
   clear hq he;go_enter Tryz.func160,Tryz.ntmps160
   go_wp2_with (go_at_call 187;refine(KJ _ _).mono ?_;rintro e w1 ⟨rfl,rfl⟩)
   go_ret
   exact⟨by rw [hc.out];rfl,rfl⟩
  ·
   have hq1:(a.toList == b.toList)=false:=by rw [hq];simp [he]
   have hc:Hid (EB a b=1):=by show _=_;unfold EB;rw [hl,if_neg (by simp),if_neg he]
   clear hq he;go_enter Tryz.func160,Tryz.ntmps160
   go_wp2_with (go_at_call 187;refine(KJ _ _).mono ?_;rintro e w1 ⟨rfl,rfl⟩)
   go_ret
   exact⟨by rw [hc.out];rfl,rfl⟩
 ·
  have hc:Hid (EB a b=-1):=by show _=_;unfold EB;rw [hl,if_pos rfl]
  clear hq;go_enter Tryz.func160,Tryz.ntmps160
  go_wp2_with (go_at_call 187;refine(KJ _ _).mono ?_;rintro e w1 ⟨rfl,rfl⟩)
  go_ret
  exact⟨by rw [hc.out];rfl,rfl⟩
theorem JH(s:ByteArray)(ac:Option Addr)(n cc:Nat)(ar:Option Addr)(r cr:Nat)(nm:ByteArray)(w:ο):XR μ 159 #[χ #[τ s,σ ac n cc,σ ar r cr],τ nm] w λe w'=>e=ρ (ι κ (EB s nm))/\υ w.heap.size w w':=by
 go_enter Tryz.func159,Tryz.ntmps159
 go_wp2_with (go_at_call 160;refine(NP _ _ _).mono ?_;rintro e w1 ⟨rfl,rfl⟩)
 go_ret
 exact⟨rfl,AE _ _⟩
def XE(F:Nat->Td)(n:Nat)(nm:ByteArray)(i:Nat):Prop:=i<=n/\(∀ k,k<i->Xh (F k).s.toList nm.toList=true)/\(∀ k,i<=k->k<n->Xh (F k).s.toList nm.toList=false)
def Ig(F:Nat->Td)(n:Nat)(nm:ByteArray)(i:Nat):Bool:=decide (i<n) && decide ((F i).s=nm)
theorem NS(a:Option Addr)(n c:Nat)(F:Nat->Td)(nm:ByteArray)(w:ο)(h:TL w a n F)(hn:n<=1048576)(hm:∀ j k,j<k->k<n->Xh (F k).s.toList nm.toList=true->Xh (F j).s.toList nm.toList=true) :
 XR μ 158 #[σ a n c,τ nm,.func (.func 159) #[] #[]] w λe w'=>∃ i:Nat,e=ρ (θ #[ι κ i,β (Ig F n nm i)])/\XE F n nm i/\υ w.heap.size w w':=by
 have hb0:=Xa w.heap.size w;go_enter Tryz.func158,Tryz.ntmps158
 go_wp2;go_loopw [9,10,11] (λi j _ wr=>∃ p q:Nat,p<=q/\q<=n/\i=ι κ p/\j=ι κ q/\(∀ k,k<p->Xh (F k).s.toList nm.toList=true)/\(∀ k,q<=k->k<n->Xh (F k).s.toList nm.toList=false)/\υ w.heap.size w wr) (λi j _ _=>(XX j - XX i).toNat)
 case atStart=>exact⟨0,n,by omega,by omega,rfl,rfl,λk hk=>by omega,λk h1 h2=>by omega,hb0⟩
 case round=>
  obtain⟨p,q,hpq,hqn,rfl,rfl,hlo,hhi,hb⟩:=hrel;by_cases hlt:p<q
  ·
   have hlt':(p:Int)<q:=by omega
   obtain⟨m,hmm⟩:∃ m:Nat,m=(p+q) / 2:=⟨_,rfl⟩;have m1:((p:Int)+q) / 2=(m:Int):=by omega
   have m2:p<=m:=by omega
   have m3:m<q:=by omega
   have m4:(m:Int)<n:=by omega
   have m5:(0:Int)<=(m:Int):=by omega
   obtain⟨b,off,ac,cc,ar,cr_,rfl,c0,c1,c2,-⟩:=h.later hb m (by omega);clear hmm;rcases hl:Xh (F m).s.toList nm.toList
   ·
    have hc:¬EB (F m).s nm<0:=by unfold EB;rw [hl,if_neg (by simp)];split <;> omega
    obtain⟨cr,hcr⟩:∃ cr,EB (F m).s nm=cr:=⟨_,rfl⟩;rw [hcr] at hc;go_wp2_with (go_at_call 159;refine(JH _ _ _ _ _ _ _ _ _).mono ?_;rw [hcr];rintro e w1 ⟨rfl,hb1⟩)
    refine⟨⟨p,m,m2,by omega,rfl,rfl,hlo,λk h1 h2=>?_,hb.trans (hb1.mono hb.size)⟩,by simp only [XX];omega⟩;rcases hk:Xh (F k).s.toList nm.toList
    · rfl
    ·
     rcases Nat.lt_or_ge m k with h3 | h3
     · have:=hm m k h3 h2 hk;rw [hl] at this;exact this.symm
     ·
      obtain rfl:k=m:=by omega
      rw [hl] at hk;exact hk.symm
   ·
    have hc:EB (F m).s nm<0:=by unfold EB;rw [hl,if_pos rfl];omega
    obtain⟨cr,hcr⟩:∃ cr,EB (F m).s nm=cr:=⟨_,rfl⟩;rw [hcr] at hc;go_wp2_with (go_at_call 159;refine(JH _ _ _ _ _ _ _ _ _).mono ?_;rw [hcr];rintro e w1 ⟨rfl,hb1⟩)
    refine⟨⟨m+1,q,by omega,by omega,by rw [Int.natCast_add];rfl,rfl,λk hk=>?_,hhi,hb.trans (hb1.mono hb.size)⟩,by simp only [XX];omega⟩;rcases Nat.lt_or_ge k m with h3 | h3
    · exact hm k m h3 (by omega) hl
    ·
     obtain rfl:k=m:=by omega
     exact hl
  ·
   obtain rfl:p=q:=by omega
   by_cases hpn:p<n
   ·
    have hpn':(p:Int)<n:=by omega
    obtain⟨b,off,ac,cc,ar,cr_,rfl,c0,c1,c2,-⟩:=h.later hb p (by omega);obtain⟨cr,hcr⟩:∃ cr,EB (F p).s nm=cr:=⟨_,rfl⟩;go_wp2_with (go_at_call 159;refine(JH _ _ _ _ _ _ _ _ _).mono ?_;rw [hcr];rintro e w1 ⟨rfl,hb1⟩)
    go_ret2
    refine⟨p,?_,⟨by omega,hlo,hhi⟩,hb.trans (hb1.mono hb.size)⟩;have hh:Ig F n nm p=(cr == 0):=by
     rw [←hcr];unfold Ig EB;rw [hhi p (XK _) hpn,if_neg (by simp)];by_cases he:(F p).s=nm
     · rw [if_pos he];simp [hpn,he]
     · rw [if_neg he];simp [he]
    rw [hh];rfl
   ·
    have hpn':¬(p:Int)<n:=by omega
    go_wp2;go_ret2
    refine⟨p,?_,⟨by omega,hlo,hhi⟩,hb⟩;have hh:Ig F n nm p=false:=by unfold Ig;simp [hpn]
    rw [hh];rfl
theorem Fb{n:Nat}{T:Nat->Td}(h:CT n T=true):∀ k j,k<n->j<k->Xh (T j).s.toList (T k).s.toList=true:=by
 unfold CT at h;simp only [XV] at h
 intro k;induction k with
 | zero=>intro j _ hj;omega
 | succ k ih=>
  intro j hk hj;have h1:=Cw h.2 hk;unfold LL at h1;simp only [Bool.or_eq_true,decide_eq_true_eq] at h1
  have h2:Xh (T k).s.toList (T (k+1)).s.toList=true:=by
   rcases h1 with h1 | h1
   · omega
   · exact h1
  by_cases e:j=k
  · subst e;exact h2
  · exact Fu _ _ _ (ih j (by omega) (by omega)) h2
theorem JQ{n i:Nat}{T:Nat->Td}{nm:ByteArray}(h:CT n T=true)(hi:i<n)(he:(T i).s=nm):Bn T nm n=ς i:=by
 rcases ht:Bn T nm n with _ | j
 · exact absurd he (GV ht i hi)
 ·
  obtain⟨hj,hs⟩:=C9 ht;by_cases e:i=j
  · rw [e]
  ·
   exfalso
   rcases Nat.lt_or_gt_of_ne e with h1 | h1
   · have:=Fb h j i hj h1;rw [hs,he,DP] at this;cases this
   · have:=Fb h i j hi h1;rw [hs,he,DP] at this;cases this
theorem Vq(a:Option Addr)(n c:Nat)(T:Nat->Td)(nm:ByteArray)(w:ο)(h:TL w a n T)(hn:n<=1048576)(hok:CT n T=true) :
 XR μ 116 #[χ #[σ a n c],τ nm] w λe w'=>∃ i:Nat,e=ρ (θ #[ι κ i,β (Bn T nm n).isSome])/\XE T n nm i/\(∀ j,Bn T nm n=ς j->i=j)/\υ w.heap.size w w':=by
 have hm:∀ j k,j<k->k<n->Xh (T k).s.toList nm.toList=true->Xh (T j).s.toList nm.toList=true:=λj k hjk hk hl=>Fu _ _ _ (Fb hok k j hk hjk) hl;have HB:=NS a n c T nm (w.alloc (γ #[σ a n c] 45)) (h.later (AE _ _)) hn hm;have HOK:Hid (CT n T=true):=hok;clear hok hm;go_enter Tryz.func116,Tryz.ntmps116
 go_wp2_with (go_at_call 158;refine HB.mono ?_;rintro e w1 ⟨i,rfl,hlo,hb1⟩)
 refine XL (Xg rfl _ _ _) rfl ?_;have hhit:Ig T n nm i=(Bn T nm n).isSome:=by
  unfold Ig;by_cases h1:i<n
  ·
   by_cases h2:(T i).s=nm
   · rw [JQ HOK.out h1 h2];simp [h1,h2]
   ·
    rcases ht:Bn T nm n with _ | j
    · simp [h2]
    ·
     exfalso
     obtain⟨hj,hs⟩:=C9 ht;have hij:i<j:=by
      rcases Nat.lt_or_ge i j with h3 | h3
      · exact h3
      ·
       rcases Nat.lt_or_ge j i with h4 | h4
       · have:=hlo.2.1 j h4;rw [hs,DP] at this;cases this
       ·
        obtain rfl:i=j:=by omega
        exact absurd hs h2
     have:=hlo.2.2 i (XK _) h1;have h5:=Fb HOK.out j i hj hij;rw [hs,this] at h5;cases h5
  ·
   rcases ht:Bn T nm n with _ | j
   · simp [h1]
   ·
    exfalso
    obtain⟨hj,hs⟩:=C9 ht;have:=hlo.2.1 j (by omega);rw [hs,DP] at this;cases this
 refine⟨i,by rw [←hhit];rfl,hlo,λj hj=>?_,bj (Xa _ _) hb1⟩;obtain⟨hjn,hs⟩:=C9 hj;rw [hj] at hhit;unfold Ig at hhit;simp only [Option.isSome,XV,decide_eq_true_eq] at hhit
 have:=JQ HOK.out hhit.1 hhit.2;rw [hj] at this;exact(XM this).symm
def PlAt(w:ο)(b n:Nat)(C:Nat->Clm):Prop:=w.ownsMap μ 9 (plainElem (H:=Unit) μ 3) b n (pl C n)
theorem PlAt.later{w w':ο}{b n:Nat}{C:Nat->Clm}(h:PlAt w b n C)(hb:υ w.heap.size w w'):PlAt w' b n C:=by
 have hl:=h.lt;obtain⟨es,clock,h1,F,hs,hD⟩:=h;exact⟨es,clock,(hb.block _ hl).trans h1,F,hs,hD⟩
theorem Fw(C:Nat->Clm)(s:ByteArray):∀ n,Ah C s n=(Bo C s n).isSome
 | 0=>rfl
 | n+1=>by
  rw [Ah,Bo,Fw C s n];rcases Bo C s n with _ | j
  ·
   simp only [Option.isSome,Bool.false_or]
   rcases (C n).s.toList == s.toList <;> rfl
  · rfl
theorem Mt{C:Nat->Clm}{s:ByteArray}:∀ {n j:Nat},(∀ k,k<n->Ah C (C k).s k=false)->Bo C s n=ς j->∀ z,(pl C n).atKey (Cf s) z=.lit (.int .i64 j)
 | 0,j,_,h,z=>by cases h
 | n+1,j,hd,h,z=>by
  rw [Bo] at h;show ((pl C n).put (Cf (C n).s) (.lit (.int .i64 n))).atKey (Cf s) z=_
  by_cases e:(C n).s=s
  ·
   rcases hc:Bo C s n with _ | i
   ·
    rw [hc] at h;simp only [e,BH,if_true] at h
    cases h
    rw [e,atKey_put_same (FZ C n).isMap (show WideAt.IsKeyLit (Cf s) from trivial)]
   · have:=hd n (by omega);rw [e,Fw,hc] at this;cases this
  ·
   rw [atKey_put_other (λh=>e (IY h).symm)];rcases hc:Bo C s n with _ | i
   ·
    rw [hc] at h;have e2:((C n).s.toList == s.toList)=false:=by rw [Tb];simp [e]
    simp only [e2] at h
    cases h
   ·
    rw [hc] at h;cases h
    exact Mt (λk hk=>hd k (by omega)) hc z
def NI(w:ο)(a:Option Addr)(L:List Int):Prop:=∀ k,k<L.length->∃ b off,a=ς ⟨b,off,ν⟩/\w.cell? ⟨b,off+k,ν⟩=ς (ι κ (L.getD k 0))
theorem NI.later{w w':ο}{a:Option Addr}{L:List Int}(h:NI w a L)(hb:υ w.heap.size w w'):NI w' a L:=λk hk=>by
 obtain⟨b,off,e,c⟩:=h k hk;exact⟨b,off,e,AB hb c⟩
def GY(L:List Int)(x r:Int):Int×Int:=if L.all (λy=>y == x)=true then (r,0) else (0,4)
theorem Id(a:Option Addr)(c:Nat)(L:List Int)(x r:Int)(w:ο)(h:NI w a L)(hl:L.length<=100) :
 XR μ 211 #[σ a L.length c,ι κ x,ι κ r] w λe w'=>e=ρ (θ #[ι κ (GY L x r).1,ι κ (GY L x r).2])/\υ w.heap.size w w':=by
 go_enter Tryz.func211,Tryz.ntmps211
 go_wp2;go_loopw [9,12] (λ_ i wr=>∃ k:Nat,k<=L.length/\i=ι κ k/\(L.take k).all (λy=>y == x)=true/\υ w.heap.size w wr) (λ_ i _=>L.length - (XX i).toNat)
 case atStart=>exact⟨0,XZ _,rfl,rfl,Xa _ _⟩
 case round=>
  obtain⟨k,hk,rfl,hall,hb⟩:=hrel;have HAL:Hid ((L.take k).all (λy=>y == x)=true):=hall;clear hall;by_cases hlt:k<L.length
  ·
   obtain⟨b,off,rfl,c0⟩:=h.later hb k hlt;have hkl:(k:Int)<L.length:=by omega
   have HN:Hid ((L.take (k+1)).all (λy=>y == x)=(L.getD k 0 == x)):=by
    show _=_
    rw [List.take_add_one,List.all_append,HAL.out];simp [hlt]
   have HF:Hid (L.getD k 0≠x->GY L x r=(0,4)):=λhne=>by
    unfold GY;rw [if_neg];intro hh;rw [List.all_eq_true] at hh;have e:L.getD k 0=L[k]:=by simp [hlt]
    have:=hh (L.getD k 0) (by rw [e];exact List.getElem_mem hlt);exact hne (eq_of_beq this)
   obtain⟨y,hy⟩:∃ y,L.getD k 0=y:=⟨_,rfl⟩;rw [hy] at c0 HN HF;clear hy;by_cases e:y=x
   ·
    subst e;go_wp2;go_roundw
    case rel=>exact⟨k+1,by omega,by go_num,by rw [HN.out];simp,hb⟩
    case measure=>simp [XX];omega
   ·
    have n1:(y != x)=true:=by simpa using e
    have HF2:Hid (GY L x r=(0,4)):=HF.out e;clear e;go_wp2;refine XL (Xg rfl _ _ _) rfl ⟨by rw [HF2.out];rfl,hb⟩
  ·
   have hkl:¬(k:Int)<L.length:=by omega
   have HE:Hid (GY L x r=(r,0)):=by
    show _=_
    have:=HAL.out;rw [List.take_of_length_le (by omega)] at this;unfold GY;rw [if_pos this]
   have hkk:k=L.length:=by omega
   clear hkk;go_wp2;refine XL (Xg rfl _ _ _) rfl ⟨by rw [HE.out];rfl,hb⟩
