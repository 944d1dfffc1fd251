import Derived.Test.YtfnfdllflgmhnaaGreatDoorZg
import Derived.Test.YtfnfdllflgmhnaaGreatDoorZa
open Array renaming getElem?_eq_some_iff → XS
open Go renaming Calls → XR, Value → XU, World → ο, cell_of_row → ε, frozen_of_row → ζ, heap_alloc_new → η, heap_setCell_same → π, wpAnyH_done → XW, wp_region_held_drew → XO
open Go.Ending renaming returned → ρ
open Go.Ground renaming data → φ
open Go.IntKind renaming i64 → κ
open Go.Obj renaming cells → γ
open Go.Operand renaming tmp → δ
open Go.Proofs.Tryz renaming prog → μ
open Go.RowKit renaming intOf → XX, Below → υ
open Go.Value renaming agg → χ, bool → β, int → ι, slice → σ, string → τ, pointer → ψ
open Go.World renaming size_alloc → ω
open Nat renaming le_refl → XK, le_trans → Xe
open Option renaming none → ν, some → ς
open Or renaming inr → Xi, inl → Xc
namespace Go.Proofs.YtfnfdllflgmhnaaGreatDoor
open Go.RowKit Go.Maps Go.WideMaps
set_option maxRecDepth 20000
set_option maxHeartbeats 8000000
theorem Fp:∀ i,EX 144 i:=λi=>by unfold EX;simp
theorem LZ:∀ i,EX 9 i:=λi=>by unfold EX;simp
theorem Mk.setA{lo hi g i:Nat}{t:TypeId}{w:ο}{cur:Array XU}{v:XU}(hr:w.heap[g]?=ς (γ cur t (0,0)))(h1:lo<=g)(h2:g<hi)(ht:∀ i,EX t i):Mk lo hi w (w.setCell ⟨g,i,ν⟩ v):=
 ⟨rfl,rfl,rfl,by simp,λx hx hn=>heap_setCell_other _ _ _ _ (by show x≠g;omega),λx c u hc=>by
  by_cases e:x=g
  ·
   subst e;rw [hr] at hc;simp only [Option.some.injEq,Obj.cells.injEq] at hc
   obtain⟨rfl,rfl,-⟩:=hc;exact⟨_,π _ _ _ _ _ _ hr,by simp,λj hj=>absurd (ht j) hj⟩
  · exact⟨c,AS hc e,rfl,λ_ _=>rfl⟩⟩
theorem Mk.at{lo hi g k:Nat}{t:TypeId}{w w':ο}{cur:Array XU}(m:Mk lo hi w w')(hr:w.heap[g]?=ς (γ cur t (0,0)))(hk:k<cur.size):∃ v,w'.cell? ⟨g,k,ν⟩=ς v/\w'.frozen? ⟨g,k,ν⟩=false:=by
 obtain⟨c,h1,h2,-⟩:=m.ins g cur t hr;obtain⟨v,hv⟩:=there (A:=c) (k:=k) (by omega);exact⟨v,(ε _ _ _ _ _ _ h1).trans hv,ζ _ _ _ _ _ h1⟩
theorem Mk.put{lo hi g i:Nat}{t:TypeId}{w w':ο}{cur:Array XU}(m:Mk lo hi w w')(hr:w.heap[g]?=ς (γ cur t (0,0)))(h1:lo<=g)(h2:g<hi)(ht:∀ i,EX t i)(v:XU):Mk lo hi w (w'.setCell ⟨g,i,ν⟩ v):=by
 obtain⟨c,e1,-⟩:=m.ins g cur t hr;exact m.trans (Mk.setA e1 h1 h2 ht)
theorem M2(lo hi g n c z:Nat)(Z:Int)(hZ:Z=(z:Int))(cur:Array XU)(w:ο)(hr:w.heap[g]?=ς (γ cur 9 (0,0)))(hs:n<=cur.size)(hl:lo<=g)(hh:g<hi)(hz0:0<z)(hz:z+n<9000000000000000000) :
 XR μ 33 #[σ (ς ⟨g,0,ν⟩) n c,ι κ Z] w λe w'=>∃ K:Int,e=ρ (ι κ K)/\Hid (K=((z+n:Nat):Int))/\Mk lo hi w w':=by
 have HR:Hid (w.heap[g]?=ς (γ cur 9 (0,0))):=hr;clear hr;go_enter Tryz.func33,Tryz.ntmps33
 go_wp2;go_loopw [1,5] (λk i wr=>∃ (j:Nat) (K:Int),k=ι κ K/\K=((z+j:Nat):Int)/\j<=n/\i=ι κ j/\Mk lo hi w wr) (λ_ i _=>n - (XX i).toNat)
 case atStart=>exact⟨0,Z,rfl,by omega,by omega,rfl,Mk.refl _ _ _⟩
 case round=>
  obtain⟨j,K,rfl,hK,hj,rfl,hM⟩:=hrel;have HK:Hid (K=((z+j:Nat):Int)):=hK;have hK0:0<K:=by omega
  have hK1:K<9000000000000000000:=by omega
  clear hK;by_cases hlt:j<n
  ·
   obtain⟨y0,hy0⟩:∃ y,FJ (z+j)=y:=⟨_,rfl⟩;have HY0:Hid (FJ (z+j)=y0):=hy0;clear hy0;go_wp2_with (go_at_call 62;refine(Br (z+j) _ _ (by have:=HK.out;omega) (by omega) (by omega) y0 HY0.out).mono ?_;rintro e u2 ⟨rfl,hb2⟩;replace hM:=hM.trans (Mk.below hb2);obtain⟨v,c0,f0⟩:=hM.at HR.out (k:=j) (by omega))
   go_roundw
   case rel=>exact⟨j+1,_,rfl,by have:=HK.out;omega,by omega,by go_num,hM.put HR.out hl hh LZ _⟩
   case measure=>simp [XX];omega
  ·
   obtain rfl:j=n:=by omega
   go_wp2;go_ret
   exact⟨K,rfl,HK,hM⟩
theorem Pa(lo hi g n c z:Nat)(Z:Int)(hZ:Z=(z:Int))(cur:Array XU)(w:ο)(hr:w.heap[g]?=ς (γ cur 144 (0,0)))(hs:n * 3<=cur.size)(hl:lo<=g)(hh:g<hi)(hz0:0<z)(hz:z+3 * n<9000000000000000000) :
 XR μ 61 #[σ (ς ⟨g,0,ν⟩) n c,ι κ Z] w λe w'=>∃ K:Int,e=ρ (ι κ K)/\Hid (K=((z+3 * n:Nat):Int))/\Mk lo hi w w':=by
 have HR:Hid (w.heap[g]?=ς (γ cur 144 (0,0))):=hr;clear hr;go_enter Tryz.func61,Tryz.ntmps61
 go_wp2;go_loopw [1,5] (λk i wr=>∃ (j:Nat) (K:Int),k=ι κ K/\K=((z+3 * j:Nat):Int)/\j<=n/\i=ι κ j/\Mk lo hi w wr) (λ_ i _=>n - (XX i).toNat)
 case atStart=>exact⟨0,Z,rfl,by omega,by omega,rfl,Mk.refl _ _ _⟩
 case round=>
  obtain⟨j,K,rfl,hK,hj,rfl,hM⟩:=hrel;have HK:Hid (K=((z+3 * j:Nat):Int)):=hK;have hK0:0<K:=by omega
  have hK1:K<9000000000000000000:=by omega
  clear hK;by_cases hlt:j<n
  ·
   obtain⟨y0,hy0⟩:∃ y,FJ (z+3 * j)=y:=⟨_,rfl⟩;have HY0:Hid (FJ (z+3 * j)=y0):=hy0;clear hy0;obtain⟨y1,hy1⟩:∃ y,FJ (z+3 * j+1)=y:=⟨_,rfl⟩;have HY1:Hid (FJ (z+3 * j+1)=y1):=hy1;clear hy1;go_upto_region 6 with (go_at_call 62;refine(Br (z+3 * j) _ _ (by have:=HK.out;omega) (by omega) (by omega) y0 HY0.out).mono ?_;rintro e u2 ⟨rfl,hb2⟩;replace hM:=hM.trans (Mk.below hb2);obtain⟨v,c0,f0⟩:=hM.at HR.out (k:=j * 3) (by omega))
   replace hM:=hM.put (i:=j * 3) HR.out hl hh Fp (τ y0);clear c0 f0 hb2 HY0;generalize u2.setCell ⟨g,j * 3,ν⟩ (τ y0)=W0 at hM ⊢;go_upto_region 8 with (go_at_call 62;refine(Br (z+3 * j+1) _ _ (by have:=HK.out;omega) (by omega) (by omega) y1 HY1.out).mono ?_;rintro e u3 ⟨rfl,hb3⟩;replace hM:=hM.trans (Mk.below hb3);obtain⟨v1,c0,f0⟩:=hM.at HR.out (k:=j * 3+1) (by omega))
   replace hM:=hM.put (i:=j * 3+1) HR.out hl hh Fp (τ y1);clear c0 f0 hb3 HY1;generalize u3.setCell ⟨g,j * 3+1,ν⟩ (τ y1)=W1 at hM ⊢;obtain⟨v2,c0,f0⟩:=hM.at HR.out (k:=j * 3+2) (by omega);go_wp2;go_roundw
   case rel=>exact⟨j+1,_,rfl,by have:=HK.out;omega,by omega,by go_num,hM.put HR.out hl hh Fp _⟩
   case measure=>simp [XX];omega
  ·
   obtain rfl:j=n:=by omega
   go_wp2;go_ret
   exact⟨K,rfl,HK,hM⟩
theorem Wf(lo hi g n c z:Nat)(x1 x2 x3 x4:Int)(x5:Bool)(Z:Int)(hZ:Z=(z:Int))(cur:Array XU)(w:ο)(hr:w.heap[g]?=ς (γ cur 144 (0,0)))(hs:n * 3<=cur.size)(hl:lo<=g)(hh:g<hi)(hz0:0<z)(hz:z+3 * n<9000000000000000000) :
 XR μ 32 #[χ #[σ (ς ⟨g,0,ν⟩) n c,ι κ x1,ι κ x2,ι κ x3,ι κ x4,β x5],ι κ Z] w λe w'=>∃ K:Int,e=ρ (ι κ K)/\Hid (K=((z+3 * n:Nat):Int))/\Mk lo hi w w':=by
 have hb0:=AE w (γ #[σ (ς ⟨g,0,ν⟩) n c,ι κ x1,ι κ x2,ι κ x3,ι κ x4,β x5] 41);have HT:=Pa lo hi g n c z Z hZ cur _ (AC hr hb0) hs hl hh hz0 hz;clear hZ hr;go_enter Tryz.func32,Tryz.ntmps32
 go_wp2_with (go_at_call 61;refine HT.mono ?_;rintro e w1 ⟨K1,rfl,HK1,hM1⟩)
 go_ret
 exact⟨K1,rfl,HK1,(Mk.below hb0).trans hM1⟩
theorem S5(lo hi g n c z:Nat)(t Z:Int)(hZ:Z=(z:Int))(cur:Array XU)(w:ο)(hr:w.heap[g]?=ς (γ cur 9 (0,0)))(hs:n<=cur.size)(hl:lo<=g)(hh:g<hi)(hz0:0<z)(hz:z+n<9000000000000000000) :
 XR μ 35 #[χ #[ι κ t,σ (ς ⟨g,0,ν⟩) n c],ι κ Z] w λe w'=>∃ K:Int,e=ρ (ι κ K)/\Hid (K=((z+n:Nat):Int))/\Mk lo hi w w':=by
 have hb0:=AE w (γ #[ι κ t,σ (ς ⟨g,0,ν⟩) n c] 46);have HT:=M2 lo hi g n c z Z hZ cur _ (AC hr hb0) hs hl hh hz0 hz;clear hZ hr;go_enter Tryz.func35,Tryz.ntmps35
 go_wp2_with (go_at_call 33;refine HT.mono ?_;rintro e w1 ⟨K1,rfl,HK1,hM1⟩)
 go_ret
 exact⟨K1,rfl,HK1,(Mk.below hb0).trans hM1⟩
theorem KD{w:ο}{B g n c:Nat}{e:TypeId}{xs:List XU}(h:w.ownsRow B e 1 (σ (ς ⟨g,0,ν⟩) n c) n xs):∃ cur,w.heap[g]?=ς (γ cur e (0,0))/\n<=cur.size/\B<=g:=by
 rcases h.2 with ⟨e1,_⟩ | ⟨g',cap',cur,e1,hB,hg,h4,h5,h6,_⟩
 · simp at e1
 ·
  simp at e1
  obtain⟨rfl,rfl⟩:=e1;exact⟨cur,hg,by omega,hB⟩
theorem VW(lo hi:Nat)(k0 k1 x1 x2 x3 x4:Int)(x5:Bool)(l0 l1 ts:Int)(up:Bool)(gF nf:Nat)(F:Nat->Fle)(gE ne:Nat)(S:Nat->ByteArray)(gD nd:Nat)(T:Nat->Td)(gP np:Nat)(U:Nat->ByteArray)(w:ο)(h:LC w lo hi gF nf F gE ne S gD nd T gP np U)(hm:LSm nf ne S nd T np U)(hhi:hi<=w.heap.size) :
 XR μ 10 #[χ #[ι κ k0,ι κ k1,σ (ς ⟨gF,0,ν⟩) nf nf,ι κ x1,ι κ x2,ι κ x3,ι κ x4,β x5,ι κ l0,ι κ l1,σ (ς ⟨gE,0,ν⟩) ne ne,σ (ς ⟨gD,0,ν⟩) nd nd,ι κ ts,σ (ς ⟨gP,0,ν⟩) np np,β up],ι κ 1] w λe w'=>∃ K:Int,e=ρ (ι κ K)/\0<K/\Mk lo hi w w':=by
 obtain⟨cE,rE,sE,lE⟩:=KD h.e;obtain⟨cP,rP,sP,lP⟩:=KD h.p;have hX:=η w (γ #[ι κ k0,ι κ k1,σ (ς ⟨gF,0,ν⟩) nf nf,ι κ x1,ι κ x2,ι κ x3,ι κ x4,β x5,ι κ l0,ι κ l1,σ (ς ⟨gE,0,ν⟩) ne ne,σ (ς ⟨gD,0,ν⟩) nd nd,ι κ ts,σ (ς ⟨gP,0,ν⟩) np np,β up] 48);have hb0:=AE w (γ #[ι κ k0,ι κ k1,σ (ς ⟨gF,0,ν⟩) nf nf,ι κ x1,ι κ x2,ι κ x3,ι κ x4,β x5,ι κ l0,ι κ l1,σ (ς ⟨gE,0,ν⟩) ne ne,σ (ς ⟨gD,0,ν⟩) nd nd,ι κ ts,σ (ς ⟨gP,0,ν⟩) np np,β up] 48);have hM:=Mk.below (lo:=lo) (hi:=hi) hb0;have hf:=hm.f;have he:=hm.e.1;have hd:=hm.d.1;have hp:=hm.p.1;obtain⟨hl1,hl2⟩:=h.hf;have hl3:=h.he;have hl4:=h.hp;have rF:w.heap[gF]?=ς (γ (Du nf F) 144 (0,0)):=h.f;have sF:=Gg nf F;have hS:=h.s;clear h hm;go_enter Tryz.func10,Tryz.ntmps10
 go_upto_region 1 with (fail)
 generalize w.alloc (γ #[ι κ k0,ι κ k1,σ (ς ⟨gF,0,ν⟩) nf nf,ι κ x1,ι κ x2,ι κ x3,ι κ x4,β x5,ι κ l0,ι κ l1,σ (ς ⟨gE,0,ν⟩) ne ne,σ (ς ⟨gD,0,ν⟩) nd nd,ι κ ts,σ (ς ⟨gP,0,ν⟩) np np,β up] 48)=u0 at hX hM hb0 ⊢;have c2:u0.cell? ⟨w.heap.size,2,ν⟩=ς (σ (ς ⟨gF,0,ν⟩) nf nf):=(ε _ _ 2 _ _ _ hX).trans rfl;have c3:u0.cell? ⟨w.heap.size,3,ν⟩=ς (ι κ x1):=(ε _ _ 3 _ _ _ hX).trans rfl;have c4:u0.cell? ⟨w.heap.size,4,ν⟩=ς (ι κ x2):=(ε _ _ 4 _ _ _ hX).trans rfl;have c5:u0.cell? ⟨w.heap.size,5,ν⟩=ς (ι κ x3):=(ε _ _ 5 _ _ _ hX).trans rfl;have c6:u0.cell? ⟨w.heap.size,6,ν⟩=ς (ι κ x4):=(ε _ _ 6 _ _ _ hX).trans rfl;have c7:u0.cell? ⟨w.heap.size,7,ν⟩=ς (β x5):=(ε _ _ 7 _ _ _ hX).trans rfl;go_upto_region 2 with (go_at_call 32;refine(Wf lo hi gF nf nf 1 x1 x2 x3 x4 x5 1 rfl _ _ (AC rF hb0) (by omega) hl1 hl2 (by omega) (by omega)).mono ?_;rintro e u1 ⟨K1,rfl,HK1,hMn⟩)
 clear c2 c3 c4 c5 c6 c7;replace hX:=hMn.row hX (Xi hhi);replace hM:=hM.trans hMn;clear hMn;have HK1p:0<K1:=by have:=HK1.out;omega
 obtain⟨cE1,rE1,sE1,-⟩:=hM.ins gE cE _ rE;have c10:u1.cell? ⟨w.heap.size,10,ν⟩=ς (σ (ς ⟨gE,0,ν⟩) ne ne):=(ε _ _ 10 _ _ _ hX).trans rfl;go_upto_region 3 with (go_at_call 33;refine(M2 lo hi gE ne ne (1+3 * nf) K1 HK1.out _ _ rE1 (by omega) lE hl3 (by omega) (by omega)).mono ?_;rintro e u2 ⟨K2,rfl,HK2,hMn⟩)
 clear c10;replace hX:=hMn.row hX (Xi hhi);replace hM:=hM.trans hMn;clear hMn;have c11:u2.cell? ⟨w.heap.size,11,ν⟩=ς (σ (ς ⟨gD,0,ν⟩) nd nd):=(ε _ _ 11 _ _ _ hX).trans rfl;go_upto_region 4 with (go_at_call 34;refine(Wg lo hi gD nd nd (1+3 * nf+ne) T K2 HK2.out _ (hS.mk hM) (by omega) (by omega) hd).mono ?_;rintro e u3 ⟨K3,k3,rfl,HK3,hk1,hk2,hMn⟩)
 clear c11;replace hX:=hMn.row hX (Xi hhi);replace hM:=hM.trans hMn;clear hMn;obtain⟨cP1,rP1,sP1,-⟩:=hM.ins gP cP _ rP;have c12:u3.cell? ⟨w.heap.size,12,ν⟩=ς (ι κ ts):=(ε _ _ 12 _ _ _ hX).trans rfl;have c13:u3.cell? ⟨w.heap.size,13,ν⟩=ς (σ (ς ⟨gP,0,ν⟩) np np):=(ε _ _ 13 _ _ _ hX).trans rfl;go_upto_region 5 with (go_at_call 35;refine(S5 lo hi gP np np k3 ts K3 HK3.out _ _ rP1 (by omega) lP hl4 (by omega) (by omega)).mono ?_;rintro e u4 ⟨K4,rfl,HK4,hMn⟩)
 clear c12 c13;replace hX:=hMn.row hX (Xi hhi);replace hM:=hM.trans hMn;clear hMn;go_wp2;go_ret
 exact⟨K4,rfl,by have:=HK4.out;omega,hM⟩
set_option maxHeartbeats 4000000
theorem Ex{W:ο}{R:Nat}{y0 y1 y2 y3 y4 y5 y6 y7 y8 y9 y10 y11 y12 y13 y14:XU}{t:TypeId}(h:W.heap[R]?=ς (γ #[y0,y1,y2,y3,y4,y5,y6,y7,y8,y9,y10,y11,y12,y13,y14] t (0,0))):W.cell? ⟨R,0,ν⟩=ς y0/\W.cell? ⟨R,1,ν⟩=ς y1/\W.cell? ⟨R,2,ν⟩=ς y2/\W.cell? ⟨R,3,ν⟩=ς y3/\W.cell? ⟨R,4,ν⟩=ς y4/\W.cell? ⟨R,5,ν⟩=ς y5/\W.cell? ⟨R,6,ν⟩=ς y6/\W.cell? ⟨R,7,ν⟩=ς y7/\W.cell? ⟨R,8,ν⟩=ς y8/\W.cell? ⟨R,9,ν⟩=ς y9/\W.cell? ⟨R,10,ν⟩=ς y10/\W.cell? ⟨R,11,ν⟩=ς y11/\W.cell? ⟨R,12,ν⟩=ς y12/\W.cell? ⟨R,13,ν⟩=ς y13/\W.cell? ⟨R,14,ν⟩=ς y14:=
 ⟨ε _ _ 0 _ _ _ h,ε _ _ 1 _ _ _ h,ε _ _ 2 _ _ _ h,ε _ _ 3 _ _ _ h,ε _ _ 4 _ _ _ h,ε _ _ 5 _ _ _ h,ε _ _ 6 _ _ _ h,ε _ _ 7 _ _ _ h,ε _ _ 8 _ _ _ h,ε _ _ 9 _ _ _ h,ε _ _ 10 _ _ _ h,ε _ _ 11 _ _ _ h,ε _ _ 12 _ _ _ h,ε _ _ 13 _ _ _ h,ε _ _ 14 _ _ _ h⟩
theorem XH{W:ο}{act:Act}{k d R:Nat}{p:String}{y0 y1 y2 y3 y4 y5 y6 y7 y8 y9 y10 y11 y12 y13 y14:XU}{t:TypeId}(he:act.tmps.getD k undef=ψ (ς ⟨R,0,ν⟩))(h:W.heap[R]?=ς (γ #[y0,y1,y2,y3,y4,y5,y6,y7,y8,y9,y10,y11,y12,y13,y14] t (0,0))):(execOp act.eval { dst:=ς d,op:=.load 48 (.tmp k),type:=48,pos:=p,after:=#[],guard:=ν }).run μ W=.ok (.value (χ #[y0,y1,y2,y3,y4,y5,y6,y7,y8,y9,y10,y11,y12,y13,y14])) W:=by
 obtain⟨c0,c1,c2,c3,c4,c5,c6,c7,c8,c9,c10,c11,c12,c13,c14⟩:=Ex h;clear h;have he2:act.eval (.tmp k)=ψ (ς ⟨R,0,ν⟩):=he;clear he;simp only [execOp,he2]
 go_simp
theorem XI{W:ο}{act:Act}{k d R:Nat}{p:String}{y0 y1 y2 y3 y4 y5 y6 y7 y8 y9 y10 y11 y12 y13 y14:XU}{t:TypeId}(he:act.tmps.getD k undef=ψ (ς ⟨R,0,ν⟩))(h:W.heap[R]?=ς (γ #[y0,y1,y2,y3,y4,y5,y6,y7,y8,y9,y10,y11,y12,y13,y14] t (0,0))):(execOp act.eval { dst:=ς d,op:=.load 34 (.tmp k),type:=34,pos:=p,after:=#[],guard:=ν }).run μ W=.ok (.value (χ #[y0,y1,y2,y3,y4,y5,y6,y7,y8,y9,y10,y11,y12,y13,y14])) W:=by
 obtain⟨c0,c1,c2,c3,c4,c5,c6,c7,c8,c9,c10,c11,c12,c13,c14⟩:=Ex h;clear h;have he2:act.eval (.tmp k)=ψ (ς ⟨R,0,ν⟩):=he;clear he;simp only [execOp,he2]
 go_simp
set_option maxHeartbeats 16000000
theorem WI{W:ο}{R:Nat}{cs:Array XU}{t:TypeId}(h:W.heap[R]?=ς (γ cs t (0,0))):W.frozen? ⟨R,0,ν⟩=false/\W.frozen? ⟨R,1,ν⟩=false/\W.frozen? ⟨R,2,ν⟩=false/\W.frozen? ⟨R,3,ν⟩=false/\W.frozen? ⟨R,4,ν⟩=false/\W.frozen? ⟨R,5,ν⟩=false/\W.frozen? ⟨R,6,ν⟩=false/\W.frozen? ⟨R,7,ν⟩=false/\W.frozen? ⟨R,8,ν⟩=false/\W.frozen? ⟨R,9,ν⟩=false/\W.frozen? ⟨R,10,ν⟩=false/\W.frozen? ⟨R,11,ν⟩=false/\W.frozen? ⟨R,12,ν⟩=false/\W.frozen? ⟨R,13,ν⟩=false/\W.frozen? ⟨R,14,ν⟩=false:=
 ⟨ζ _ _ 0 _ _ h,ζ _ _ 1 _ _ h,ζ _ _ 2 _ _ h,ζ _ _ 3 _ _ h,ζ _ _ 4 _ _ h,ζ _ _ 5 _ _ h,ζ _ _ 6 _ _ h,ζ _ _ 7 _ _ h,ζ _ _ 8 _ _ h,ζ _ _ 9 _ _ h,ζ _ _ 10 _ _ h,ζ _ _ 11 _ _ h,ζ _ _ 12 _ _ h,ζ _ _ 13 _ _ h,ζ _ _ 14 _ _ h⟩
theorem QA.len{up:Bool}{s:ByteArray}{n:Nat}{T:Nat->Td}{A:List Rw}{c1 c2:Int}(h:QA up s n T A c1 c2):A.length<=1000000:=by
 rcases h with ⟨-,rfl,-⟩ | ⟨-,-,rfl,-⟩ | ⟨-,d,-,rfl,-⟩
 · simp
 · simp
 · exact Ld n T d
theorem LC.later{w w':ο}{lo hi gF nf:Nat}{F:Nat->Fle}{gE ne:Nat}{S:Nat->ByteArray}{gD nd:Nat}{T:Nat->Td}{gP np:Nat}{U:Nat->ByteArray}(h:LC w lo hi gF nf F gE ne S gD nd T gP np U)(hb:υ w.heap.size w w'):LC w' lo hi gF nf F gE ne S gD nd T gP np U:=by
 obtain⟨G,h1,h2,h3⟩:=h.d;exact⟨h.f.later hb,h.hf,AH h.e hb,h.he,⟨G,h1,h2,h3.kp (Kp.of 0 hb) (by omega) (by omega)⟩,h.s.kp (KpR.below hb),AH h.p hb,h.hp⟩
theorem OD.bel{B:Nat}{D:Nat->Prop}{w w':ο}{a:Option Addr}{A:List Rw}(h:OD D w a A)(k:υ B w w')(hD:∀ b,D b->b<B):OD D w' a A:=λj hj=>by
 obtain⟨b,off,i,c,e,hd,c0,hl⟩:=h j hj;exact⟨b,off,i,c,e,hd,(World.cell?_of_block (k.block _ (hD _ hd))).trans c0,hl.step λa v hx hc=>(World.cell?_of_block (k.block _ (hD _ hx))).trans hc⟩
theorem Wk(k0 k1 x1 x2 x3 x4:Int)(x5:Bool)(l0 l1 ts:Int)(up:Bool)(af:Option Addr)(nf cf:Nat)(F:Nat->Fle)(ae:Option Addr)(ne ce:Nat)(S:Nat->ByteArray)(ad:Option Addr)(nd cd:Nat)(T:Nat->Td)(ap:Option Addr)(np cp:Nat)(U:Nat->ByteArray)(s:ByteArray)(w:ο)(hs0:s.size<=9223372036854775807)(hF:FX w af nf F)(hE:Sl w ae ne S)(hD:TX w ad nd T)(hP:Sl w ap np U)(hSp:SpT w) :
 XR μ 3 #[χ #[ι κ k0,ι κ k1,σ af nf cf,ι κ x1,ι κ x2,ι κ x3,ι κ x4,β x5,ι κ l0,ι κ l1,σ ae ne ce,σ ad nd cd,ι κ ts,σ ap np cp,β up],τ s] w λe w'=>e=ρ (β true)/\υ w.heap.size w w':=by
 have hX:=η w (γ #[ι κ k0,ι κ k1,σ af nf cf,ι κ x1,ι κ x2,ι κ x3,ι κ x4,β x5,ι κ l0,ι κ l1,σ ae ne ce,σ ad nd cd,ι κ ts,σ ap np cp,β up] 34);have hb0:=AE w (γ #[ι κ k0,ι κ k1,σ af nf cf,ι κ x1,ι κ x2,ι κ x3,ι κ x4,β x5,ι κ l0,ι κ l1,σ ae ne ce,σ ad nd cd,ι κ ts,σ ap np cp,β up] 34);go_enter Tryz.func3,Tryz.ntmps3
 by_cases hs:s.size<=1048576
 rotate_left
 ·
  have hs1:(1048576:Int)<s.size:=by omega
  go_wp2;go_ret
  exact⟨rfl,hb0⟩
 have hs1:¬(1048576:Int)<s.size:=by omega
 go_upto_region 4 with (fail)
 generalize w.alloc (γ #[ι κ k0,ι κ k1,σ af nf cf,ι κ x1,ι κ x2,ι κ x3,ι κ x4,β x5,ι κ l0,ι κ l1,σ ae ne ce,σ ad nd cd,ι κ ts,σ ap np cp,β up] 34)=u0 at hX hb0 ⊢;obtain⟨c0_,c1_,c2_,c3_,c4_,c5_,c6_,c7_,c8_,c9_,c10_,c11_,c12_,c13_,c14_⟩:=Ex hX;go_upto_region 5 with (go_at_call 4;refine(Tz k0 k1 x1 x2 x3 x4 x5 l0 l1 ts up af nf cf F ae ne ce S ad nd cd T ap np cp U _ (hF.later hb0) (hE.later hb0) (hD.later hb0) (hP.later hb0)).mono ?_;rintro e u1 ⟨hb1,r,rfl,hr⟩)
 try generalize χ #[ι κ k0,ι κ k1,σ af nf cf,ι κ x1,ι κ x2,ι κ x3,ι κ x4,β x5,ι κ l0,ι κ l1,σ ae ne ce,σ ad nd cd,ι κ ts,σ ap np cp,β up]=V0
 replace hX:=AC hX hb1;replace hb0:=AA hb0 hb1;clear hb1 c0_ c1_ c2_ c3_ c4_ c5_ c6_ c7_ c8_ c9_ c10_ c11_ c12_ c13_ c14_;by_cases hp:(0:Int)<=r
 rotate_left
 ·
  have hp2:r<0:=by omega
  go_wp2;go_ret
  exact⟨rfl,hb0⟩
 have hp2:¬r<0:=by omega
 have hm:=hr hp;have hFL:=hF.fl;have hTL:=hD.small hm.d.2;have HTO:Hid (∀ W:ο,υ w.heap.size w W->XR μ 6 #[χ #[ι κ k0,ι κ k1,σ af nf cf,ι κ x1,ι κ x2,ι κ x3,ι κ x4,β x5,ι κ l0,ι κ l1,σ ae ne ce,σ ad nd cd,ι κ ts,σ ap np cp,β up]] W λe w'=>∃ gF gE gD gP,e=ρ (χ #[ι κ k0,ι κ k1,σ (ς ⟨gF,0,ν⟩) nf nf,ι κ x1,ι κ x2,ι κ x3,ι κ x4,β x5,ι κ l0,ι κ l1,σ (ς ⟨gE,0,ν⟩) ne ne,σ (ς ⟨gD,0,ν⟩) nd nd,ι κ ts,σ (ς ⟨gP,0,ν⟩) np np,β up])/\LC w' W.heap.size w'.heap.size gF nf F gE ne S gD nd T gP np U/\υ W.heap.size W w'):=λW hb=>Tt k0 k1 x1 x2 x3 x4 x5 l0 l1 ts up af nf cf F ae ne ce S ad nd cd T ap np cp U W (hFL.later hb) (hE.later hb) (hTL.later hb) (hP.later hb) hm;obtain⟨A,q1,q2,hA⟩:=QA.there up s nd T;have hAl:=hA.len;have hnd:=hm.d.1;clear hr hs1 hF hE hD hP hTL hFL hs0;have HM:Hid (LSm nf ne S nd T np U):=hm;have HA:Hid (QA up s nd T A q1 q2):=hA;clear hA;go_upto_region 7 with (fail)
 obtain⟨c0_,c1_,c2_,c3_,c4_,c5_,c6_,c7_,c8_,c9_,c10_,c11_,c12_,c13_,c14_⟩:=Ex hX;go_upto_region 8 with (first | (go_at_call 5;have _h:=hL2;refine(T8 _ _ _ _ _ _ _ _ _ _ _ _ _ gD2 nd nd T up s _ hT2.tn hnd hs A q1 q2 HA.out).mono ?_;rintro e u3 ⟨aW,cW,rfl,hW,hb3⟩) | (go_at_call 6;refine(HTO.out _ hb0).mono ?_;rintro e u2 ⟨gF2,gE2,gD2,gP2,rfl,hL2,hb2⟩;obtain⟨G2,-,-,hT2⟩:=hL2.d))
 try generalize χ #[ι κ k0,ι κ k1,σ af nf cf,ι κ x1,ι κ x2,ι κ x3,ι κ x4,β x5,ι κ l0,ι κ l1,σ ae ne ce,σ ad nd cd,ι κ ts,σ ap np cp,β up]=V1
 try generalize χ #[ι κ k0,ι κ k1,σ (ς ⟨gF2,0,ν⟩) nf nf,ι κ x1,ι κ x2,ι κ x3,ι κ x4,β x5,ι κ l0,ι κ l1,σ (ς ⟨gE2,0,ν⟩) ne ne,σ (ς ⟨gD2,0,ν⟩) nd nd,ι κ ts,σ (ς ⟨gP2,0,ν⟩) np np,β up]=V2
 clear c0_ c1_ c2_ c3_ c4_ c5_ c6_ c7_ c8_ c9_ c10_ c11_ c12_ c13_ c14_ hL2 hT2;replace hX:=AC (AC hX hb2) hb3;replace hb0:=AA hb0 (AA hb2 hb3);have hlX:=(XS.1 hX).1;have hOW:OD (λb=>b<u3.heap.size) u3 aW A:=hW.cut.wide (λb h=>h.2);clear hb2 hb3 hW;obtain⟨c0_,c1_,c2_,c3_,c4_,c5_,c6_,c7_,c8_,c9_,c10_,c11_,c12_,c13_,c14_⟩:=Ex hX;go_upto_region 9 with (go_at_call 6;refine(HTO.out _ hb0).mono ?_;rintro e u4 ⟨gF,gE,gD,gP,rfl,hL4,hb4⟩;have hz:=η u4 (γ #[ι κ 0,ι κ 0,σ ν 0 0,ι κ 0,ι κ 0,ι κ 0,ι κ 0,β false,ι κ 0,ι κ 0,σ ν 0 0,σ ν 0 0,ι κ 0,σ ν 0 0,β false] 48);obtain⟨d0_,d1_,d2_,d3_,d4_,d5_,d6_,d7_,d8_,d9_,d10_,d11_,d12_,d13_,d14_⟩:=Ex hz;obtain⟨f0_,f1_,f2_,f3_,f4_,f5_,f6_,f7_,f8_,f9_,f10_,f11_,f12_,f13_,f14_⟩:=WI hz)
 try generalize χ #[ι κ k0,ι κ k1,σ af nf cf,ι κ x1,ι κ x2,ι κ x3,ι κ x4,β x5,ι κ l0,ι κ l1,σ ae ne ce,σ ad nd cd,ι κ ts,σ ap np cp,β up]=V3
 try generalize χ #[ι κ k0,ι κ k1,σ (ς ⟨gF,0,ν⟩) nf nf,ι κ x1,ι κ x2,ι κ x3,ι κ x4,β x5,ι κ l0,ι κ l1,σ (ς ⟨gE,0,ν⟩) ne ne,σ (ς ⟨gD,0,ν⟩) nd nd,ι κ ts,σ (ς ⟨gP,0,ν⟩) np np,β up]=V4
 clear c0_ c1_ c2_ c3_ c4_ c5_ c6_ c7_ c8_ c9_ c10_ c11_ c12_ c13_ c14_ d0_ d1_ d2_ d3_ d4_ d5_ d6_ d7_ d8_ d9_ d10_ d11_ d12_ d13_ d14_ f0_ f1_ f2_ f3_ f4_ f5_ f6_ f7_ f8_ f9_ f10_ f11_ f12_ f13_ f14_;have rQ:=η u4 (γ #[ι κ k0,ι κ k1,σ (ς ⟨gF,0,ν⟩) nf nf,ι κ x1,ι κ x2,ι κ x3,ι κ x4,β x5,ι κ l0,ι κ l1,σ (ς ⟨gE,0,ν⟩) ne ne,σ (ς ⟨gD,0,ν⟩) nd nd,ι κ ts,σ (ς ⟨gP,0,ν⟩) np np,β up] 48);have hb5:=AE u4 (γ #[ι κ k0,ι κ k1,σ (ς ⟨gF,0,ν⟩) nf nf,ι κ x1,ι κ x2,ι κ x3,ι κ x4,β x5,ι κ l0,ι κ l1,σ (ς ⟨gE,0,ν⟩) ne ne,σ (ς ⟨gD,0,ν⟩) nd nd,ι κ ts,σ (ς ⟨gP,0,ν⟩) np np,β up] 48);have hs5:(u4.alloc (γ #[ι κ k0,ι κ k1,σ (ς ⟨gF,0,ν⟩) nf nf,ι κ x1,ι κ x2,ι κ x3,ι κ x4,β x5,ι κ l0,ι κ l1,σ (ς ⟨gE,0,ν⟩) ne ne,σ (ς ⟨gD,0,ν⟩) nd nd,ι κ ts,σ (ς ⟨gP,0,ν⟩) np np,β up] 48)).heap.size=u4.heap.size+1:=ω _ _;clear hz;generalize u4.alloc (γ #[ι κ k0,ι κ k1,σ (ς ⟨gF,0,ν⟩) nf nf,ι κ x1,ι κ x2,ι κ x3,ι κ x4,β x5,ι κ l0,ι κ l1,σ (ς ⟨gE,0,ν⟩) ne ne,σ (ς ⟨gD,0,ν⟩) nd nd,ι κ ts,σ (ς ⟨gP,0,ν⟩) np np,β up] 48)=u5 at rQ hb5 hs5 ⊢;have hs34:=hb4.size;have hws:=hb0.size;replace hX:=AC (AC hX hb4) hb5;replace hb0:=AA hb0 (AA hb4 hb5);replace hOW:=(hOW.later hb4).later hb5;have hL5:=hL4.later hb5;obtain⟨G5,-,-,hT5⟩:=hL5.d;clear hL4 hb4 hb5;obtain⟨c0_,c1_,c2_,c3_,c4_,c5_,c6_,c7_,c8_,c9_,c10_,c11_,c12_,c13_,c14_⟩:=Ex rQ;go_upto_region 12 with (first | (go_at_call 8;have _h:=hb6;refine(Hi _ _ A.length _ _ _ _ _ hG.ol (hOW.later hb6).ol (by omega)).mono ?_;rintro e u7 ⟨rfl,hb7⟩) | (go_at_call 7;refine(RW _ _ _ _ _ _ _ _ _ _ _ _ _ (ς ⟨gD,0,ν⟩) nd nd T up s _ hT5.tl hnd (hSp.later hb0) hs A q1 q2 HA.out).mono ?_;rintro e u6 ⟨aG,cG,rfl,hG,hAp,hb6⟩))
 try generalize χ #[ι κ k0,ι κ k1,σ (ς ⟨gF,0,ν⟩) nf nf,ι κ x1,ι κ x2,ι κ x3,ι κ x4,β x5,ι κ l0,ι κ l1,σ (ς ⟨gE,0,ν⟩) ne ne,σ (ς ⟨gD,0,ν⟩) nd nd,ι κ ts,σ (ς ⟨gP,0,ν⟩) np np,β up]=V5
 clear c0_ c1_ c2_ c3_ c4_ c5_ c6_ c7_ c8_ c9_ c10_ c11_ c12_ c13_ c14_ hT5;replace hX:=AC (AC hX hb6) hb7;replace rQ:=AC (AC rQ hb6) hb7;replace hb0:=AA hb0 (AA hb6 hb7);replace hOW:=(hOW.later hb6).later hb7;replace hG:=hG.later hb7;replace hAp:=hAp.later hb7 (XK _);have hL7:=(hL5.later hb6).later hb7;have hs57:u5.heap.size<=u7.heap.size:=Xe hb6.size hb7.size;clear hL5 hb6 hb7;refine XO (S:=λx=>υ u7.heap.size u7 x) (by kernel_rfl) (CE _) (λjH=>?_);refine wpAnyH_take (i:=0) (oi:=(⟨ς 58,.load 48 (δ 9),48,"exact.go:2351",#[],ν⟩:Oper)) (v:=χ #[ι κ k0,ι κ k1,σ (ς ⟨gF,0,ν⟩) nf nf,ι κ x1,ι κ x2,ι κ x3,ι κ x4,β x5,ι κ l0,ι κ l1,σ (ς ⟨gE,0,ν⟩) ne ne,σ (ς ⟨gD,0,ν⟩) nd nd,ι κ ts,σ (ς ⟨gP,0,ν⟩) np np,β up]) rfl (by kernel_rfl) (by kernel_rfl) (by kernel_rfl) (λ_ _ _ h=>h) (Xc ⟨by rfl,λx jS=>XH rfl (AC rQ jS)⟩) jH ?_;try simp only [zS]
 refine wpAnyH_take (i:=1) (oi:=(⟨ς 59,.load 34 (δ 2),34,"exact.go:2351",#[],ν⟩:Oper)) (v:=χ #[ι κ k0,ι κ k1,σ af nf cf,ι κ x1,ι κ x2,ι κ x3,ι κ x4,β x5,ι κ l0,ι κ l1,σ ae ne ce,σ ad nd cd,ι κ ts,σ ap np cp,β up]) rfl (by kernel_rfl) (by kernel_rfl) (by kernel_rfl) (λ_ _ _ h=>h) (Xc ⟨by rfl,λx jS=>XI rfl (AC hX jS)⟩) jH ?_;try simp only [zS]
 refine rd 2 (⟨ς 60,.call ⟨.value (.func 6),#[δ 59],#[34]⟩,48,"exact.go:2351",#[⟨1,φ⟩],ν⟩:Oper) (λK hK=>?_);go_simp;refine(HTO.out _ (AA hb0 jH)).mono ?_;rintro e u8 ⟨hF,hE,hD,hP,rfl,hL8,hb8⟩;have hH8:=AA jH hb8;have hLx:=hL7.later hH8;obtain⟨G7,-,-,hT7⟩:=hLx.d;obtain⟨G8,-,-,hT8⟩:=hL8.d;refine hK.out _ _ (hH8) (λjH=>?_);clear hK K;try simp only [zS]
 refine rd 3 (⟨ς 61,.call ⟨.value (.func 9),#[δ 58,δ 60],#[48,48]⟩,4,"exact.go:2351",#[⟨0,φ⟩,⟨2,φ⟩,⟨2,.chain⟩],ν⟩:Oper) (λK hK=>?_);go_simp;refine(WN k0 k1 x1 x2 x3 x4 x5 l0 l1 ts up (ς ⟨gF,0,ν⟩) nf nf F (ς ⟨gE,0,ν⟩) ne ne S (ς ⟨gD,0,ν⟩) nd nd T (ς ⟨gP,0,ν⟩) np np U (ς ⟨hF,0,ν⟩) nf (ς ⟨hE,0,ν⟩) ne (ς ⟨hD,0,ν⟩) nd (ς ⟨hP,0,ν⟩) np _ hLx.f.fl hL8.f.fl (G0 hLx.e hm.e.1 hm.e.2) (G0 hL8.e hm.e.1 hm.e.2) hT7.tl hT8.tl (G0 hLx.p hm.p.1 hm.p.2) (G0 hL8.p hm.p.1 hm.p.2) hm).mono ?_;rintro e u9 ⟨rfl,hb9⟩;have hH9:=AA jH hb9;refine hK.out _ _ (hH9) (λjH=>?_);clear hK K;try simp only [zS]
 refine tk 4 (⟨ς 62,.unOp .not 4 (δ 61),4,"exact.go:2351",#[⟨3,φ⟩],ν⟩:Oper) (λx jS=>by go_simp<;>rfl) jH ?_
 try simp only [zS]
 refine XW (by kernel_rfl) ?_ _;try generalize χ #[ι κ k0,ι κ k1,σ af nf cf,ι κ x1,ι κ x2,ι κ x3,ι κ x4,β x5,ι κ l0,ι κ l1,σ ae ne ce,σ ad nd cd,ι κ ts,σ ap np cp,β up]=V6
 try generalize χ #[ι κ k0,ι κ k1,σ (ς ⟨gF,0,ν⟩) nf nf,ι κ x1,ι κ x2,ι κ x3,ι κ x4,β x5,ι κ l0,ι κ l1,σ (ς ⟨gE,0,ν⟩) ne ne,σ (ς ⟨gD,0,ν⟩) nd nd,ι κ ts,σ (ς ⟨gP,0,ν⟩) np np,β up]=V7
 try generalize χ #[ι κ k0,ι κ k1,σ (ς ⟨hF,0,ν⟩) nf nf,ι κ x1,ι κ x2,ι κ x3,ι κ x4,β x5,ι κ l0,ι κ l1,σ (ς ⟨hE,0,ν⟩) ne ne,σ (ς ⟨hD,0,ν⟩) nd nd,ι κ ts,σ (ς ⟨hP,0,ν⟩) np np,β up]=V8
 have hs79:=jH.size;replace hX:=AC hX jH;replace rQ:=AC rQ jH;replace hb0:=AA hb0 jH;replace hOW:=hOW.later jH;replace hG:=hG.later jH;replace hAp:=hAp.later jH (XK _);have hL9:=hL7.later jH;clear hL7 hLx hL8 hT7 hT8 hb8 hH8 hb9 hH9 jH;have HWID:Hid (∀ i,i<A.length->(A.getD i _root_.Go.Proofs.YtfnfdllflgmhnaaGreatDoor.r0).1<=1048576):=hG.wid;obtain⟨c0_,c1_,c2_,c3_,c4_,c5_,c6_,c7_,c8_,c9_,c10_,c11_,c12_,c13_,c14_⟩:=Ex rQ;go_upto_region 26 with (first | (go_at_call 12;have _h:=hb12;refine(Py aG cG A _ hMd hAl HWID.out).mono ?_;rintro e u13 ⟨K4,rfl,HK4,hb13⟩;obtain rfl:K4=K3:=HK4.out.trans HK3.out.symm) | (go_at_call 11;have _h:=hb11;refine(Pd u5.heap.size aG cG A _ ((hAp.mk hMM (by omega)).later hb11 (XK _)) (by have:=hMM.size;have:=hb11.size;omega) hAl HWID.out).mono ?_;rintro e u12 ⟨K3,rfl,HK3,hMd,hb12⟩;have hK3:¬K3<0:=(by have:=HK3.out;omega)) | (go_at_call 8;have _h:=hMM;refine(Hi _ _ A.length _ _ _ _ _ (hG.mk hMM (λb h=>Xi (by omega))).ol (hOW.mk hMM (λb h=>Xc h)).ol (by omega)).mono ?_;rintro e u11 ⟨rfl,hb11⟩) | (go_at_call 10;refine(VW u3.heap.size u4.heap.size k0 k1 x1 x2 x3 x4 x5 l0 l1 ts up gF nf F gE ne S gD nd T gP np U _ hL9 HM.out (by omega)).mono ?_;rintro e u10 ⟨K,rfl,hK,hMM⟩;have hK2:¬K<0:=(by omega)))
 try generalize χ #[ι κ k0,ι κ k1,σ (ς ⟨gF,0,ν⟩) nf nf,ι κ x1,ι κ x2,ι κ x3,ι κ x4,β x5,ι κ l0,ι κ l1,σ (ς ⟨gE,0,ν⟩) ne ne,σ (ς ⟨gD,0,ν⟩) nd nd,ι κ ts,σ (ς ⟨gP,0,ν⟩) np np,β up]=V9
 have hbM:=Nv hb0 hMM (by omega) (XK _);have hbN:=AA hbM hb11;have hs12:=hMM.size;have hs13:=hb11.size;have hbO:υ w.heap.size w u12:=⟨hb12.os.trans hbN.os,hb12.tape.trans hbN.tape,hb12.output.trans hbN.output,Xe hbN.size hb12.size,λx hx=>(hb12.block x (by omega)).trans (hbN.block x hx)⟩;have hbP:=AA hbO hb13;replace hX:=AC ((hb12.block _ (by omega)).trans (AC (hMM.row hX (Xc (by omega))) hb11)) hb13;replace hOW:=(OD.bel ((hOW.mk hMM (λb h=>Xc h)).later hb11) hb12 (λb h=>by omega)).later hb13;clear c0_ c1_ c2_ c3_ c4_ c5_ c6_ c7_ c8_ c9_ c10_ c11_ c12_ c13_ c14_ hMd hAp hG hb11 hb12 hb13 hbO hbN hbM hMM hL9 rQ hb0;obtain⟨c0_,c1_,c2_,c3_,c4_,c5_,c6_,c7_,c8_,c9_,c10_,c11_,c12_,c13_,c14_⟩:=Ex hX;go_wp2_with (first | (go_at_call 8;have _h:=hb15;refine(Hi _ _ A.length _ _ _ _ _ hH.ol ((hOW.later hb14).later hb15).ol (by omega)).mono ?_;rintro e u16 ⟨rfl,hb16⟩) | (go_at_call 7;have _h:=hb14;refine(RW _ _ _ _ _ _ _ _ _ _ _ _ _ (ς ⟨jD,0,ν⟩) nd nd T up s _ hT14.tl hnd (hSp.later (AA hbP hb14)) hs A q1 q2 HA.out).mono ?_;rintro e u15 ⟨aH,cH,rfl,hH,-,hb15⟩) | (go_at_call 6;refine(HTO.out _ hbP).mono ?_;rintro e u14 ⟨jF,jE,jD,jP,rfl,hL14,hb14⟩;obtain⟨G14,-,-,hT14⟩:=hL14.d))
 go_ret
 exact⟨rfl,AA hbP (AA hb14 (AA hb15 hb16))⟩
