import Derived.Test.YtfnfdllflgmhnaaGreatDoorRzb
import Derived.Test.YtfnfdllflgmhnaaGreatDoorRyc
open Go renaming Calls → XR, World → ο, bodyPost_ret → XL, cell_of_row → ε, frozen_of_row → ζ, heap_alloc_new → η, heap_setCell_same → π, wpAnyH_done → XW, wp_region_held_drew → XO
open Go.Ending renaming returned → ρ
open Go.Ground renaming data → φ, phase → ξ
open Go.IntKind renaming i64 → κ
open Go.Obj renaming cells → γ
open Go.Operand renaming tmp → δ
open Go.Proofs.Tryz renaming prog → μ
open Go.RowKit renaming Below → υ, intOf → XX
open Go.RowKit.Below renaming refl → Xa
open Go.Value renaming agg → χ, bool → β, int → ι, pointer → ψ, slice → σ, string → τ, tuple → θ
open Go.World renaming news_of_block → XP
open Nat renaming le_refl → XK, le_trans → Xe, zero_le → XZ
open Option renaming none → ν, some → ς
open Option.some renaming inj → XM
open Or renaming inl → Xc, inr → Xi
namespace Go.Proofs.YtfnfdllflgmhnaaGreatDoor
open Go.RowKit Go.Maps Go.WideMaps
set_option maxRecDepth 20000
set_option maxHeartbeats 16000000
abbrev MS:Oper:=⟨ς 102,.load 62 (δ 101),62,"l4_stm.go:269",#[⟨0,φ⟩],ν⟩
abbrev RQ:Oper:=⟨ς 104,.call ⟨.value (.func 42),#[δ 103],#[86]⟩,61,"l4_stm.go:269",#[⟨2,φ⟩],ν⟩
abbrev MR:Oper:=⟨ς 105,.buildSlice 62 1 #[(0,δ 104)],62,"l4_stm.go:269",#[⟨3,φ⟩],ν⟩
abbrev MQ:Oper:=⟨ς 106,.call ⟨.builtin .append,#[δ 102,δ 105],#[62,62]⟩,62,"l4_stm.go:269",#[⟨1,φ⟩,⟨4,φ⟩,⟨3,.chain⟩],ν⟩
abbrev MP:Oper:=⟨ς 107,.fieldAddr 64 (δ 5) 7,0,"l4_stm.go:269",#[⟨0,ξ⟩,⟨1,ξ⟩,⟨2,ξ⟩,⟨3,ξ⟩,⟨4,ξ⟩,⟨5,ξ⟩],ν⟩
abbrev MO:Oper:=⟨ν,.store 62 (δ 107) (δ 106),0,"l4_stm.go:269",#[⟨6,φ⟩,⟨5,φ⟩,⟨5,.chain⟩,⟨0,ξ⟩,⟨1,ξ⟩,⟨2,ξ⟩,⟨3,ξ⟩,⟨4,ξ⟩,⟨5,ξ⟩],ν⟩
theorem LsI.grR{w w':ο}{base B:Nat}{r:Option Nat}{s:ByteArray}{q:Option Nat}{n m g cap:Nat}(h:LsI w base B s q n m g cap)(hg:w.grownBy w' r)(hne:ς g≠r):LsI w' base B s q n m g cap:=
 ⟨G6 h.own hg (λx e=>by have e':g=x:=XM e;rw [←e'];exact hne),h.le,h.at'⟩
theorem PT{w:ο}{base B m cap:Nat}{a:Option Addr}{s:ByteArray}{X:Nat->Ex3}{Q:Nat->Option Nat}(h:w.ownsRow base 61 1 (σ a m cap) m (F2 X m))(hX:∀ i,i<m->LsI w base B s (AD s 2 (Q i)) (AY s 2 (Q i)) (X i).m (X i).g (X i).c)(hs:s.size<=1048576) :
 OL w a m (λi=>if i<m then (X i).m else 0) (λi j=>An s (AO (AZ s) (AD s 2 (Q i)) j)):=by
 have h':=h;rcases h.2 with ⟨e,rfl⟩ | ⟨g,cap',cur,e,h2⟩
 · exact Co _ _ _ _
 ·
  simp only [Value.slice.injEq,true_and] at e
  obtain⟨rfl,rfl⟩:=e;intro k hk;have:=Mv h' hX hs k hk;have e:(λi=>if i<m then (X i).m else 0) k=(X k).m:=if_pos hk
  rw [e];exact this
theorem UL(s:ByteArray)(w:ο)(hs:s.size<=1048576)(hk:AK s 1 (ς 0)=5)(h1:¬60000<s.size) :
 XR μ 17 #[τ s] w λe w'=>Ht w w' s e:=by
 have t1:¬(60000:Int)<s.size:=by omega
 have hsA:(w.alloc (γ #[ι κ 0,τ ⟨#[]⟩,σ ν 0 0,σ ν 0 0,τ ⟨#[]⟩,σ ν 0 0,σ ν 0 0,σ ν 0 0] 64)).heap.size=w.heap.size+1:=by simp
 have hsB:((w.alloc (γ #[ι κ 0,τ ⟨#[]⟩,σ ν 0 0,σ ν 0 0,τ ⟨#[]⟩,σ ν 0 0,σ ν 0 0,σ ν 0 0] 64)).alloc (γ #[τ s,ι κ 0] 88)).heap.size=w.heap.size+1+1:=by simp
 have hb0:υ w.heap.size w ((w.alloc (γ #[ι κ 0,τ ⟨#[]⟩,σ ν 0 0,σ ν 0 0,τ ⟨#[]⟩,σ ν 0 0,σ ν 0 0,σ ν 0 0] 64)).alloc (γ #[τ s,ι κ 0] 88)):=AA (AE _ _) (AE _ _);have HR0:Hid (((w.alloc (γ #[ι κ 0,τ ⟨#[]⟩,σ ν 0 0,σ ν 0 0,τ ⟨#[]⟩,σ ν 0 0,σ ν 0 0,σ ν 0 0] 64)).alloc (γ #[τ s,ι κ 0] 88)).heap[w.heap.size]?=ς (γ #[ι κ 0,τ ⟨#[]⟩,σ ν 0 0,σ ν 0 0,τ ⟨#[]⟩,σ ν 0 0,σ ν 0 0,σ ν 0 0] 64 (0,0))):=AC (η w _) (AE _ _);have hP0:PS ((w.alloc (γ #[ι κ 0,τ ⟨#[]⟩,σ ν 0 0,σ ν 0 0,τ ⟨#[]⟩,σ ν 0 0,σ ν 0 0,σ ν 0 0] 64)).alloc (γ #[τ s,ι κ 0] 88)) (w.heap.size+1) s (ς 0):=⟨XZ _,(by have:=η (w.alloc (γ #[ι κ 0,τ ⟨#[]⟩,σ ν 0 0,σ ν 0 0,τ ⟨#[]⟩,σ ν 0 0,σ ν 0 0,σ ν 0 0] 64)) (γ #[τ s,ι κ 0] 88);rw [hsA] at this;exact this)⟩;have hN:=Ci (w.heap.size+1) s (ς 0) 1 _ hP0 hs (by omega);have HK:Hid (AK s 1 (ς 0)=5):=hk;have hs0:0<s.size:=by
  rcases Nat.eq_zero_or_pos s.size with h | h
  ·
   exfalso
   have:AK s 1 (ς 0)=0:=by simp only [AK];rw [if_neg (by omega)]
   omega
  · exact h
 have t0:s.toList.isEmpty=false:=by rw [Ib];exact decide_eq_false (by omega)
 rw [hk] at hN;clear hk;obtain⟨hn1,hn2⟩:=BF s (k:=1) (by omega) (Ad s);have hN3:∀ v,PS v (w.heap.size+1) s (Ad s)->XR μ 40 #[ψ (ς ⟨(w.heap.size+1),0,ν⟩),ι κ 1] v λe w'=>e=ρ (ι κ ((AY s 1 (Ad s):Nat):Int))/\PS w' (w.heap.size+1) s (AD s 1 (Ad s))/\v.grownBy w' (ς (w.heap.size+1)):=λv hv=>by rw [←hn1];exact Ci (w.heap.size+1) s (Ad s) 1 v hv hs (by omega)
 obtain⟨n,hn⟩:∃ n,AY s 1 (Ad s)=n:=⟨_,rfl⟩;have HLEN:Hid (AY s 1 (Ad s)=n):=hn;rw [hn] at hN3 hn2;clear hn hn1;have hT:∀ v,PS v (w.heap.size+1) s (AD s 1 (ς 0))->XR μ 41 #[ψ (ς ⟨(w.heap.size+1),0,ν⟩),ι κ 1] v λe w'=>e=ρ (τ (Ar s))/\PS w' (w.heap.size+1) s (Ad s)/\v.grownBy w' (ς (w.heap.size+1)):=λv hv=>Dc (w.heap.size+1) s (AD s 1 (ς 0)) 1 v hv hs (by omega);obtain⟨i0,hi,hz0,hz1,hz2⟩:=info_parts Tryz.infoRowI;have HI:Hid (Tryz.prog.info? 61=ς i0):=hi;clear hi;go_enter Tryz.func17,Tryz.ntmps17
 go_wp2_with (first | (go_at_call 40;have _h:=hP2;refine(hN3 _ hP2t).mono ?_;rintro e w3 ⟨rfl,hP3,hg3⟩;have hs3:=hg3.size;have HL3:Hid (w3.heap[w1.heap.size]?=ς (γ #[ι κ 5,τ (Ar s),σ ν 0 0,σ ν 0 0,τ ⟨#[]⟩,σ ν 0 0,σ ν 0 0,σ ν 0 0] 64 (0,0))):=AW HL2t.out hg3 hneL;have HR3:Hid (w3.heap[w.heap.size]?=ς (γ #[ι κ 0,τ ⟨#[]⟩,σ ν 0 0,σ ν 0 0,τ ⟨#[]⟩,σ ν 0 0,σ ν 0 0,σ ν 0 0] 64 (0,0))):=AW HR2t.out hg3 hneRB;have hb3:υ w.heap.size w w3:=EI hb2t hg3 (by omega)) | (go_at_call 41;refine(hT _ (hP1.later (AE _ _))).mono ?_;rintro e w2 ⟨rfl,hP2,hg2⟩;have hs2:=hg2.size;have HL2:Hid (w2.heap[w1.heap.size]?=ς (γ #[ι κ 5,τ ⟨#[]⟩,σ ν 0 0,σ ν 0 0,τ ⟨#[]⟩,σ ν 0 0,σ ν 0 0,σ ν 0 0] 64 (0,0))):=AW HLn.out hg2 hneL;have HR2:Hid (w2.heap[w.heap.size]?=ς (γ #[ι κ 0,τ ⟨#[]⟩,σ ν 0 0,σ ν 0 0,τ ⟨#[]⟩,σ ν 0 0,σ ν 0 0,σ ν 0 0] 64 (0,0))):=AW (AC HR1 (AE _ _)) hg2 hneRB;have hb2:υ w.heap.size w w2:=EI (AA hb1 (AE _ _)) hg2 (by omega);have HL2t:Hid ((w2.setCell ⟨w1.heap.size,1,ν⟩ (τ (Ar s))).heap[w1.heap.size]?=ς (γ #[ι κ 5,τ (Ar s),σ ν 0 0,σ ν 0 0,τ ⟨#[]⟩,σ ν 0 0,σ ν 0 0,σ ν 0 0] 64 (0,0))):=π _ _ 1 _ _ _ HL2.out;have HR2t:Hid ((w2.setCell ⟨w1.heap.size,1,ν⟩ (τ (Ar s))).heap[w.heap.size]?=ς (γ #[ι κ 0,τ ⟨#[]⟩,σ ν 0 0,σ ν 0 0,τ ⟨#[]⟩,σ ν 0 0,σ ν 0 0,σ ν 0 0] 64 (0,0))):=AS HR2.out hneR;have hP2t:=PS.grown (A8 w2 w1.heap.size 1 (τ (Ar s))) hneL.symm hP2;have hb2t:υ w.heap.size w (w2.setCell ⟨w1.heap.size,1,ν⟩ (τ (Ar s))):=Al hb2 (by omega);have hs2t:(w2.setCell ⟨w1.heap.size,1,ν⟩ (τ (Ar s))).heap.size=w2.heap.size:=(by simp);have l0:w2.cell? ⟨w1.heap.size,0,ν⟩=ς (ι κ 5):=(ε _ _ 0 _ _ _ HL2.out).trans rfl;have lf0:w2.frozen? ⟨w1.heap.size,0,ν⟩=false:=ζ _ _ 0 _ _ HL2.out;have l1:w2.cell? ⟨w1.heap.size,1,ν⟩=ς (τ ⟨#[]⟩):=(ε _ _ 1 _ _ _ HL2.out).trans rfl;have lf1:w2.frozen? ⟨w1.heap.size,1,ν⟩=false:=ζ _ _ 1 _ _ HL2.out;have l2:w2.cell? ⟨w1.heap.size,2,ν⟩=ς (σ ν 0 0):=(ε _ _ 2 _ _ _ HL2.out).trans rfl;have lf2:w2.frozen? ⟨w1.heap.size,2,ν⟩=false:=ζ _ _ 2 _ _ HL2.out;have l3:w2.cell? ⟨w1.heap.size,3,ν⟩=ς (σ ν 0 0):=(ε _ _ 3 _ _ _ HL2.out).trans rfl;have lf3:w2.frozen? ⟨w1.heap.size,3,ν⟩=false:=ζ _ _ 3 _ _ HL2.out;have l4:w2.cell? ⟨w1.heap.size,4,ν⟩=ς (τ ⟨#[]⟩):=(ε _ _ 4 _ _ _ HL2.out).trans rfl;have lf4:w2.frozen? ⟨w1.heap.size,4,ν⟩=false:=ζ _ _ 4 _ _ HL2.out;have l5:w2.cell? ⟨w1.heap.size,5,ν⟩=ς (σ ν 0 0):=(ε _ _ 5 _ _ _ HL2.out).trans rfl;have lf5:w2.frozen? ⟨w1.heap.size,5,ν⟩=false:=ζ _ _ 5 _ _ HL2.out;have l6:w2.cell? ⟨w1.heap.size,6,ν⟩=ς (σ ν 0 0):=(ε _ _ 6 _ _ _ HL2.out).trans rfl;have lf6:w2.frozen? ⟨w1.heap.size,6,ν⟩=false:=ζ _ _ 6 _ _ HL2.out;have l7:w2.cell? ⟨w1.heap.size,7,ν⟩=ς (σ ν 0 0):=(ε _ _ 7 _ _ _ HL2.out).trans rfl;have lf7:w2.frozen? ⟨w1.heap.size,7,ν⟩=false:=ζ _ _ 7 _ _ HL2.out) | (go_at_call 40;refine hN.mono ?_;rintro e w1 ⟨rfl,hP1,hg1⟩;have hs1:=hg1.size;have HR1:=AW HR0.out hg1 (by omega);have hneL:w1.heap.size≠w.heap.size+1:=(by omega);have hneR:w.heap.size≠w1.heap.size:=(by omega);have hneRB:w.heap.size≠w.heap.size+1:=(by omega);have hb1:υ w.heap.size w w1:=EI hb0 hg1 (by omega);have hsL:(w1.alloc (γ #[ι κ 5,τ ⟨#[]⟩,σ ν 0 0,σ ν 0 0,τ ⟨#[]⟩,σ ν 0 0,σ ν 0 0,σ ν 0 0] 64)).heap.size=w1.heap.size+1:=(by simp);have HLn:Hid ((w1.alloc (γ #[ι κ 5,τ ⟨#[]⟩,σ ν 0 0,σ ν 0 0,τ ⟨#[]⟩,σ ν 0 0,σ ν 0 0,σ ν 0 0] 64)).heap[w1.heap.size]?=ς (γ #[ι κ 5,τ ⟨#[]⟩,σ ν 0 0,σ ν 0 0,τ ⟨#[]⟩,σ ν 0 0,σ ν 0 0,σ ν 0 0] 64 (0,0))):=η w1 _))
 go_loopw [13] (λi wr=>∃ (j:Nat) (a:Option Addr) (cap:Nat) (X:Nat->Ex3),j<=n/\i=ι κ j/\wr.heap[w1.heap.size]?=ς (γ #[ι κ 5,τ (Ar s),σ ν 0 0,σ ν 0 0,τ ⟨#[]⟩,σ ν 0 0,σ ν 0 0,σ a j cap] 64 (0,0))/\wr.heap[w.heap.size]?=ς (γ #[ι κ 0,τ ⟨#[]⟩,σ ν 0 0,σ ν 0 0,τ ⟨#[]⟩,σ ν 0 0,σ ν 0 0,σ ν 0 0] 64 (0,0))/\wr.ownsRow w3.heap.size 61 1 (σ a j cap) j (F2 X j)/\(∀ i,i<j->(∀ x,(σ a j cap).ownBlock=ς x->(X i).g≠x)/\LsI wr w3.heap.size (w.heap.size+1) s (AD s 2 (AO (AT s) (AD s 1 (Ad s)) i)) (AY s 2 (AO (AT s) (AD s 1 (Ad s)) i)) (X i).m (X i).g (X i).c)/\PS wr (w.heap.size+1) s (AO (AT s) (AD s 1 (Ad s)) j)/\υ w.heap.size w wr/\w3.heap.size<=wr.heap.size) (λi _=>n - (XX i).toNat)
 case atStart=>exact⟨0,ν,0,λ_=>⟨0,0,0⟩,by omega,rfl,HL3.out,HR3.out,⟨rfl,Xc ⟨rfl,rfl⟩⟩,λi hi=>by omega,hP3,hb3,XK _⟩
 case round=>
  obtain⟨j,a,cap,X,hj,rfl,hLr,hRr,hO,hX,hP,hb,hG⟩:=hrel;have HLr:Hid (wr.heap[w1.heap.size]?=ς (γ #[ι κ 5,τ (Ar s),σ ν 0 0,σ ν 0 0,τ ⟨#[]⟩,σ ν 0 0,σ ν 0 0,σ a j cap] 64 (0,0))):=hLr;have HRr:Hid (wr.heap[w.heap.size]?=ς (γ #[ι κ 0,τ ⟨#[]⟩,σ ν 0 0,σ ν 0 0,τ ⟨#[]⟩,σ ν 0 0,σ ν 0 0,σ ν 0 0] 64 (0,0))):=hRr;have HXs:Hid ((∀ i,i<j->(∀ x,(σ a j cap).ownBlock=ς x->(X i).g≠x)/\LsI wr w3.heap.size (w.heap.size+1) s (AD s 2 (AO (AT s) (AD s 1 (Ad s)) i)) (AY s 2 (AO (AT s) (AD s 1 (Ad s)) i)) (X i).m (X i).g (X i).c)):=hX;clear hX;clear hLr hRr;by_cases hlj:j<n
  rotate_left
  ·
   have hjn:j=n:=by omega
   subst hjn;clear hlj hj;have hnb:∀ x,x<w3.heap.size->ς x≠(σ a j cap).ownBlock:=λx hx e=>by have:=(hO.lt x e.symm).1;omega
   have hBG:w.heap.size+1<w3.heap.size:=by omega
   have hLG:w1.heap.size<w3.heap.size:=by omega
   have hRG:w.heap.size<w3.heap.size:=by omega
   have l0:wr.cell? ⟨w1.heap.size,0,ν⟩=ς (ι κ 5):=(ε _ _ 0 _ _ _ HLr.out).trans rfl;have lf0:wr.frozen? ⟨w1.heap.size,0,ν⟩=false:=ζ _ _ 0 _ _ HLr.out;have l1:wr.cell? ⟨w1.heap.size,1,ν⟩=ς (τ (Ar s)):=(ε _ _ 1 _ _ _ HLr.out).trans rfl;have lf1:wr.frozen? ⟨w1.heap.size,1,ν⟩=false:=ζ _ _ 1 _ _ HLr.out;have l2:wr.cell? ⟨w1.heap.size,2,ν⟩=ς (σ ν 0 0):=(ε _ _ 2 _ _ _ HLr.out).trans rfl;have lf2:wr.frozen? ⟨w1.heap.size,2,ν⟩=false:=ζ _ _ 2 _ _ HLr.out;have l3:wr.cell? ⟨w1.heap.size,3,ν⟩=ς (σ ν 0 0):=(ε _ _ 3 _ _ _ HLr.out).trans rfl;have lf3:wr.frozen? ⟨w1.heap.size,3,ν⟩=false:=ζ _ _ 3 _ _ HLr.out;have l4:wr.cell? ⟨w1.heap.size,4,ν⟩=ς (τ ⟨#[]⟩):=(ε _ _ 4 _ _ _ HLr.out).trans rfl;have lf4:wr.frozen? ⟨w1.heap.size,4,ν⟩=false:=ζ _ _ 4 _ _ HLr.out;have l5:wr.cell? ⟨w1.heap.size,5,ν⟩=ς (σ ν 0 0):=(ε _ _ 5 _ _ _ HLr.out).trans rfl;have lf5:wr.frozen? ⟨w1.heap.size,5,ν⟩=false:=ζ _ _ 5 _ _ HLr.out;have l6:wr.cell? ⟨w1.heap.size,6,ν⟩=ς (σ ν 0 0):=(ε _ _ 6 _ _ _ HLr.out).trans rfl;have lf6:wr.frozen? ⟨w1.heap.size,6,ν⟩=false:=ζ _ _ 6 _ _ HLr.out;have l7:wr.cell? ⟨w1.heap.size,7,ν⟩=ς (σ a j cap):=(ε _ _ 7 _ _ _ HLr.out).trans rfl;have lf7:wr.frozen? ⟨w1.heap.size,7,ν⟩=false:=ζ _ _ 7 _ _ HLr.out;go_wp2_with (first | (go_at_call 43;have _h:=hP4t;have HM:∀ W,KpR (w3.heap.size) (w4.setCell ⟨w1.heap.size,6,ν⟩ (σ (ς ⟨g',0,ν⟩) m' cap')).heap.size (w4.setCell ⟨w1.heap.size,6,ν⟩ (σ (ς ⟨g',0,ν⟩) m' cap')) W->SM W (Oh s j (λi=>if i<j then (X i).m else 0) m') (⟨ν,0,ν,0,ν,0,ς ⟨g',0,ν⟩,cap',a,cap⟩):=λW hK=>⟨Xe (Bf _ _ _) hs,Bi,Cb _ _ _,Ax _ _ _,Ax _ _ _,LsI.il (LsI.kp hLb_4t hK (by omega)) hs,PT (Q:=λi=>AO (AT s) (AD s 1 (Ad s)) i) (G4 hO4t hK (XK _)) (λi hi=>LsI.kp (HX4t.out i hi) hK (XK _)) hs,XZ _,XZ _,XZ _,(by have q1:=hLb.le;have q2:=(CG s (AO (AT s) (AD s 1 (Ad s)) j)).1;show m'<=1048576;omega),(by show j<=1048576;omega)⟩;refine(Kq (Oh s j (λi=>if i<j then (X i).m else 0) m') (⟨ν,0,ν,0,ν,0,ς ⟨g',0,ν⟩,cap',a,cap⟩) _ (HM _ (KpR.below (Xa _ _)))).mono ?_;rintro e w9 ⟨rfl,hb9⟩;have HL9:Hid (w9.heap[w1.heap.size]?=ς (γ #[ι κ 5,τ (Ar s),σ ν 0 0,σ ν 0 0,τ ⟨#[]⟩,σ ν 0 0,σ (ς ⟨g',0,ν⟩) m' cap',σ a j cap] 64 (0,0))):=AC HL4t.out hb9;have HR9:Hid (w9.heap[w.heap.size]?=ς (γ #[ι κ 0,τ ⟨#[]⟩,σ ν 0 0,σ ν 0 0,τ ⟨#[]⟩,σ ν 0 0,σ ν 0 0,σ ν 0 0] 64 (0,0))):=AC HR4t.out hb9;have m0:w9.cell? ⟨w1.heap.size,0,ν⟩=ς (ι κ 5):=(ε _ _ 0 _ _ _ HL9.out).trans rfl;have mf0:w9.frozen? ⟨w1.heap.size,0,ν⟩=false:=ζ _ _ 0 _ _ HL9.out;have m1:w9.cell? ⟨w1.heap.size,1,ν⟩=ς (τ (Ar s)):=(ε _ _ 1 _ _ _ HL9.out).trans rfl;have mf1:w9.frozen? ⟨w1.heap.size,1,ν⟩=false:=ζ _ _ 1 _ _ HL9.out;have m2:w9.cell? ⟨w1.heap.size,2,ν⟩=ς (σ ν 0 0):=(ε _ _ 2 _ _ _ HL9.out).trans rfl;have mf2:w9.frozen? ⟨w1.heap.size,2,ν⟩=false:=ζ _ _ 2 _ _ HL9.out;have m3:w9.cell? ⟨w1.heap.size,3,ν⟩=ς (σ ν 0 0):=(ε _ _ 3 _ _ _ HL9.out).trans rfl;have mf3:w9.frozen? ⟨w1.heap.size,3,ν⟩=false:=ζ _ _ 3 _ _ HL9.out;have m4:w9.cell? ⟨w1.heap.size,4,ν⟩=ς (τ ⟨#[]⟩):=(ε _ _ 4 _ _ _ HL9.out).trans rfl;have mf4:w9.frozen? ⟨w1.heap.size,4,ν⟩=false:=ζ _ _ 4 _ _ HL9.out;have m5:w9.cell? ⟨w1.heap.size,5,ν⟩=ς (σ ν 0 0):=(ε _ _ 5 _ _ _ HL9.out).trans rfl;have mf5:w9.frozen? ⟨w1.heap.size,5,ν⟩=false:=ζ _ _ 5 _ _ HL9.out;have m6:w9.cell? ⟨w1.heap.size,6,ν⟩=ς (σ (ς ⟨g',0,ν⟩) m' cap'):=(ε _ _ 6 _ _ _ HL9.out).trans rfl;have mf6:w9.frozen? ⟨w1.heap.size,6,ν⟩=false:=ζ _ _ 6 _ _ HL9.out;have m7:w9.cell? ⟨w1.heap.size,7,ν⟩=ς (σ a j cap):=(ε _ _ 7 _ _ _ HL9.out).trans rfl;have mf7:w9.frozen? ⟨w1.heap.size,7,ν⟩=false:=ζ _ _ 7 _ _ HL9.out;have r0:w9.cell? ⟨w.heap.size,0,ν⟩=ς (ι κ 0):=(ε _ _ 0 _ _ _ HR9.out).trans rfl;have rf0:w9.frozen? ⟨w.heap.size,0,ν⟩=false:=ζ _ _ 0 _ _ HR9.out;have r1:w9.cell? ⟨w.heap.size,1,ν⟩=ς (τ ⟨#[]⟩):=(ε _ _ 1 _ _ _ HR9.out).trans rfl;have rf1:w9.frozen? ⟨w.heap.size,1,ν⟩=false:=ζ _ _ 1 _ _ HR9.out;have r2:w9.cell? ⟨w.heap.size,2,ν⟩=ς (σ ν 0 0):=(ε _ _ 2 _ _ _ HR9.out).trans rfl;have rf2:w9.frozen? ⟨w.heap.size,2,ν⟩=false:=ζ _ _ 2 _ _ HR9.out;have r3:w9.cell? ⟨w.heap.size,3,ν⟩=ς (σ ν 0 0):=(ε _ _ 3 _ _ _ HR9.out).trans rfl;have rf3:w9.frozen? ⟨w.heap.size,3,ν⟩=false:=ζ _ _ 3 _ _ HR9.out;have r4:w9.cell? ⟨w.heap.size,4,ν⟩=ς (τ ⟨#[]⟩):=(ε _ _ 4 _ _ _ HR9.out).trans rfl;have rf4:w9.frozen? ⟨w.heap.size,4,ν⟩=false:=ζ _ _ 4 _ _ HR9.out;have r5:w9.cell? ⟨w.heap.size,5,ν⟩=ς (σ ν 0 0):=(ε _ _ 5 _ _ _ HR9.out).trans rfl;have rf5:w9.frozen? ⟨w.heap.size,5,ν⟩=false:=ζ _ _ 5 _ _ HR9.out;have r6:w9.cell? ⟨w.heap.size,6,ν⟩=ς (σ ν 0 0):=(ε _ _ 6 _ _ _ HR9.out).trans rfl;have rf6:w9.frozen? ⟨w.heap.size,6,ν⟩=false:=ζ _ _ 6 _ _ HR9.out;have r7:w9.cell? ⟨w.heap.size,7,ν⟩=ς (σ ν 0 0):=(ε _ _ 7 _ _ _ HR9.out).trans rfl;have rf7:w9.frozen? ⟨w.heap.size,7,ν⟩=false:=ζ _ _ 7 _ _ HR9.out;obtain⟨x,hx⟩:∃ x,BM (Oh s j (λi=>if i<j then (X i).m else 0) m')=x:=⟨_,rfl⟩;have HX:Hid (BM (Oh s j (λi=>if i<j then (X i).m else 0) m')=x):=hx;rw [hx];clear hx;by_cases he:x=s;(case' pos=>(have qq:(x.toList == s.toList)=true:=(by rw [he];exact BH s)));(case' neg=>(have qq:=C6 he))) | (go_at_call 42;have _h:=hP;refine(IE (w.heap.size+1) s (AO (AT s) (AD s 1 (Ad s)) j) _ hP hs).mono ?_;rintro e w4 ⟨m',g',cap',rfl,hLb,hP4,hg4⟩;have hs4:=hg4.size;have HL4:Hid (w4.heap[w1.heap.size]?=ς (γ #[ι κ 5,τ (Ar s),σ ν 0 0,σ ν 0 0,τ ⟨#[]⟩,σ ν 0 0,σ ν 0 0,σ a j cap] 64 (0,0))):=AW HLr.out hg4 hneL;have HR4:Hid (w4.heap[w.heap.size]?=ς (γ #[ι κ 0,τ ⟨#[]⟩,σ ν 0 0,σ ν 0 0,τ ⟨#[]⟩,σ ν 0 0,σ ν 0 0,σ ν 0 0] 64 (0,0))):=AW HRr.out hg4 hneRB;have hb4:υ w.heap.size w w4:=EI hb hg4 (by omega);have hLb_lt:=(hLb.own.lt g' rfl);have hLb_b1:=hLb_lt.1;have hLb_b2:=hLb_lt.2;have l4_0:w4.cell? ⟨w1.heap.size,0,ν⟩=ς (ι κ 5):=(ε _ _ 0 _ _ _ HL4.out).trans rfl;have l4_f0:w4.frozen? ⟨w1.heap.size,0,ν⟩=false:=ζ _ _ 0 _ _ HL4.out;have l4_1:w4.cell? ⟨w1.heap.size,1,ν⟩=ς (τ (Ar s)):=(ε _ _ 1 _ _ _ HL4.out).trans rfl;have l4_f1:w4.frozen? ⟨w1.heap.size,1,ν⟩=false:=ζ _ _ 1 _ _ HL4.out;have l4_2:w4.cell? ⟨w1.heap.size,2,ν⟩=ς (σ ν 0 0):=(ε _ _ 2 _ _ _ HL4.out).trans rfl;have l4_f2:w4.frozen? ⟨w1.heap.size,2,ν⟩=false:=ζ _ _ 2 _ _ HL4.out;have l4_3:w4.cell? ⟨w1.heap.size,3,ν⟩=ς (σ ν 0 0):=(ε _ _ 3 _ _ _ HL4.out).trans rfl;have l4_f3:w4.frozen? ⟨w1.heap.size,3,ν⟩=false:=ζ _ _ 3 _ _ HL4.out;have l4_4:w4.cell? ⟨w1.heap.size,4,ν⟩=ς (τ ⟨#[]⟩):=(ε _ _ 4 _ _ _ HL4.out).trans rfl;have l4_f4:w4.frozen? ⟨w1.heap.size,4,ν⟩=false:=ζ _ _ 4 _ _ HL4.out;have l4_5:w4.cell? ⟨w1.heap.size,5,ν⟩=ς (σ ν 0 0):=(ε _ _ 5 _ _ _ HL4.out).trans rfl;have l4_f5:w4.frozen? ⟨w1.heap.size,5,ν⟩=false:=ζ _ _ 5 _ _ HL4.out;have l4_6:w4.cell? ⟨w1.heap.size,6,ν⟩=ς (σ ν 0 0):=(ε _ _ 6 _ _ _ HL4.out).trans rfl;have l4_f6:w4.frozen? ⟨w1.heap.size,6,ν⟩=false:=ζ _ _ 6 _ _ HL4.out;have l4_7:w4.cell? ⟨w1.heap.size,7,ν⟩=ς (σ a j cap):=(ε _ _ 7 _ _ _ HL4.out).trans rfl;have l4_f7:w4.frozen? ⟨w1.heap.size,7,ν⟩=false:=ζ _ _ 7 _ _ HL4.out;have HL4t:Hid ((w4.setCell ⟨w1.heap.size,6,ν⟩ (σ (ς ⟨g',0,ν⟩) m' cap')).heap[w1.heap.size]?=ς (γ #[ι κ 5,τ (Ar s),σ ν 0 0,σ ν 0 0,τ ⟨#[]⟩,σ ν 0 0,σ (ς ⟨g',0,ν⟩) m' cap',σ a j cap] 64 (0,0))):=π _ _ 6 _ _ _ HL4.out;have HR4t:Hid ((w4.setCell ⟨w1.heap.size,6,ν⟩ (σ (ς ⟨g',0,ν⟩) m' cap')).heap[w.heap.size]?=ς (γ #[ι κ 0,τ ⟨#[]⟩,σ ν 0 0,σ ν 0 0,τ ⟨#[]⟩,σ ν 0 0,σ ν 0 0,σ ν 0 0] 64 (0,0))):=AS HR4.out hneR;have hP4t:=PS.grown (A8 w4 w1.heap.size 6 (σ (ς ⟨g',0,ν⟩) m' cap')) hneL.symm hP4;have hb4t:υ w.heap.size w (w4.setCell ⟨w1.heap.size,6,ν⟩ (σ (ς ⟨g',0,ν⟩) m' cap')):=Al hb4 (by omega);have hs4t:(w4.setCell ⟨w1.heap.size,6,ν⟩ (σ (ς ⟨g',0,ν⟩) m' cap')).heap.size=w4.heap.size:=(by simp);have hLb_4t:=hLb.gr (A8 w4 w1.heap.size 6 (σ (ς ⟨g',0,ν⟩) m' cap')) (by omega);have hO4t:=CS (A0 hO hg4 hBG) (L:=w1.heap.size) (i:=6) (v:=σ (ς ⟨g',0,ν⟩) m' cap') hLG;have HX4t:Hid (∀ i,i<j->LsI (w4.setCell ⟨w1.heap.size,6,ν⟩ (σ (ς ⟨g',0,ν⟩) m' cap')) w3.heap.size (w.heap.size+1) s (AD s 2 (AO (AT s) (AD s 1 (Ad s)) i)) (AY s 2 (AO (AT s) (AD s 1 (Ad s)) i)) (X i).m (X i).g (X i).c):=(λi hi=>by have q1:=((HXs.out i hi).2.own.lt (X i).g rfl).1;exact((HXs.out i hi).2.gr hg4 (by omega)).gr (A8 w4 w1.heap.size 6 _) (by omega))))
   · exact XL (v:=θ #[χ #[ι κ 0,τ ⟨#[]⟩,σ ν 0 0,σ ν 0 0,τ ⟨#[]⟩,σ ν 0 0,σ ν 0 0,σ ν 0 0],β false]) (AF Tryz.results17 _ _ w.heap.size 64 _ (0,0) _ rfl (BJ HR9.out _ _ _ _ _ _ _ _) Tryz.underlying64 rfl (by kernel_rfl)) rfl ⟨Au (AA hb4t hb9) (XK _) _ _ _ _ _ _ _ _,Xc ⟨rfl,DX (.k5 j _ m' HK.out ⟨by rw [HLEN.out];exact XK _,Xc HLEN.out.symm⟩ (λi hi=>by rw [if_pos hi];exact(HXs.out i hi).2.cnt) (λi hi=>if_neg (by omega)) hLb.cnt) (by rw [HX.out];exact he)⟩⟩
   · refine XL (v:=θ #[χ #[ι κ 5,τ (Ar s),σ ν 0 0,σ ν 0 0,τ ⟨#[]⟩,σ ν 0 0,σ (ς ⟨g',0,ν⟩) m' cap',σ a j cap],β true]) (AF Tryz.results17 _ _ w.heap.size 64 _ (0,0) _ rfl (BJ HR9.out _ _ _ _ _ _ _ _) Tryz.underlying64 rfl (by kernel_rfl)) rfl ⟨Au (AA hb4t hb9) (XK _) _ _ _ _ _ _ _ _,Xi ⟨Oh s j (λi=>if i<j then (X i).m else 0) m',⟨ν,0,ν,0,ν,0,ς ⟨g',0,ν⟩,cap',a,cap⟩,⟨by omega,.k5 j _ m' HK.out ⟨by rw [HLEN.out];exact XK _,Xc HLEN.out.symm⟩ (λi hi=>by rw [if_pos hi];exact(HXs.out i hi).2.cnt) (λi hi=>if_neg (by omega)) hLb.cnt,HX.out.trans he⟩,rfl,HM _ ((KpR.below hb9).trans (DV w9 (by omega) _ _ _ _ _ _ _ _)),XK 0⟩⟩
  have hnb:∀ x,x<w3.heap.size->ς x≠(σ a j cap).ownBlock:=λx hx e=>by have:=(hO.lt x e.symm).1;omega
  have hBG:w.heap.size+1<w3.heap.size:=by omega
  have hLG:w1.heap.size<w3.heap.size:=by omega
  have hRG:w.heap.size<w3.heap.size:=by omega
  obtain⟨u,hu⟩:∃ u,AO (AT s) (AD s 1 (Ad s)) j=u:=⟨_,rfl⟩;have HU:Hid (AO (AT s) (AD s 1 (Ad s)) (j+1)=AT s u):=by show AT s (AO (AT s) (AD s 1 (Ad s)) j)=_;rw [hu]
  have HUj:Hid (AO (AT s) (AD s 1 (Ad s)) j=u):=hu;rw [hu] at hP;clear hu;have hownb:∀ x,(σ a j cap).ownBlock=ς x->x<wr.heap.size:=λx e=>(hO.lt x e).2;go_upto_region 35 with (fail)
  have HLd:Hid (wr.drew.heap[w1.heap.size]?=ς (γ #[ι κ 5,τ (Ar s),σ ν 0 0,σ ν 0 0,τ ⟨#[]⟩,σ ν 0 0,σ ν 0 0,σ a j cap] 64 (0,0))):=HLr.out;have HRd:Hid (wr.drew.heap[w.heap.size]?=ς (γ #[ι κ 0,τ ⟨#[]⟩,σ ν 0 0,σ ν 0 0,τ ⟨#[]⟩,σ ν 0 0,σ ν 0 0,σ ν 0 0] 64 (0,0))):=HRr.out;have hOd:=AH hO (Bc wr);have hPd:=PS.later hP (Bc wr);have hbd:υ w.heap.size w wr.drew:=AA hb (Bc wr);have hsd:wr.drew.heap.size=wr.heap.size:=rfl;have hEu:=IE (w.heap.size+1) s u _ hPd hs;have l7:wr.drew.cell? ⟨w1.heap.size,7,ν⟩=ς (σ a j cap):=(ε _ _ 7 _ _ _ HLd.out).trans rfl;refine XO (S:=λ_=>True) (by kernel_rfl) (trivial) (λjH=>?_);refine wpAnyH_take (i:=0) (oi:=(⟨ς 101,.fieldAddr 64 (δ 5) 7,0,"l4_stm.go:269",#[],ν⟩:Oper)) (v:=ψ (ς ⟨w1.heap.size,7,ν⟩)) rfl (by kernel_rfl) (by kernel_rfl) (by kernel_rfl) (λ_ _ _ h=>h) (Xc ⟨by rfl,λx jS=>(by go_simp)⟩) jH ?_;try simp only [zS]
  refine wpAnyH_take (i:=2) (oi:=(⟨ς 103,.move (δ 4),86,"l4_stm.go:269",#[],ν⟩:Oper)) (v:=ψ (ς ⟨w.heap.size+1,0,ν⟩)) rfl (by kernel_rfl) (by kernel_rfl) (by kernel_rfl) (λ_ _ _ h=>h) (Xc ⟨by rfl,λx jS=>(by go_simp)⟩) jH ?_;try simp only [zS]
  refine wpAnyH_ready (rs:=[1,3]) (by kernel_rfl) (by simp) ?_;refine AllReadyH.cons (o:=MS) rfl (λK hK=>?_) (AllReadyH.cons (o:=RQ) rfl (λK hK=>?_) AllReadyH.nil)
  ·
   go_simp;refine hK.out _ _ (trivial) (λjH=>?_);clear hK K;try simp only [zS]
   refine rd 3 RQ (λK hK=>?_);go_simp;refine(hEu).mono ?_;rintro e w5 ⟨m2,g2,cap2,rfl,hL2,hP5,hg5⟩;have hs5:=hg5.size;have HL5:Hid (w5.heap[w1.heap.size]?=ς (γ #[ι κ 5,τ (Ar s),σ ν 0 0,σ ν 0 0,τ ⟨#[]⟩,σ ν 0 0,σ ν 0 0,σ a j cap] 64 (0,0))):=AW HLd.out hg5 hneL;have HR5:Hid (w5.heap[w.heap.size]?=ς (γ #[ι κ 0,τ ⟨#[]⟩,σ ν 0 0,σ ν 0 0,τ ⟨#[]⟩,σ ν 0 0,σ ν 0 0,σ ν 0 0] 64 (0,0))):=AW HRd.out hg5 hneRB;have hO5:=A0 hOd hg5 hBG;have hb5:υ w.heap.size w w5:=EI hbd hg5 (by omega);have l75:w5.cell? ⟨w1.heap.size,7,ν⟩=ς (σ a j cap):=(ε _ _ 7 _ _ _ HL5.out).trans rfl;have hs5a:(w5.alloc (γ #[σ (ς ⟨g2,0,ν⟩) m2 cap2] 61)).heap.size=w5.heap.size+1:=(by simp);have l75a:(w5.alloc (γ #[σ (ς ⟨g2,0,ν⟩) m2 cap2] 61)).cell? ⟨w1.heap.size,7,ν⟩=ς (σ a j cap):=AB (AE _ _) l75;have hg2b:=(hL2.own.lt g2 rfl).1;have hg2l:=(hL2.own.lt g2 rfl).2;refine hK.out _ _ (trivial) (λjH=>?_);clear hK K;try simp only [zS]
   refine rd 4 MR (λK hK=>?_);go_simp;refine hK.out _ _ (trivial) (λjH=>?_);clear hK K;try simp only [zS]
   refine rd 5 MQ (λK hK=>?_);rw [if_pos (by kernel_rfl)];refine wp_append_lies _ _ _ _ rfl w3.heap.size 61 i0 (σ ν 0 0) 1 24 Tryz.underlying62 HI.out hz0 hz1 hz2 rfl (by omega) (σ a j cap) j _ rfl (hO5.alloc _) ⟨w5.heap.size,0,ν⟩ 1 1 [σ (ς ⟨g2,0,ν⟩) m2 cap2] rfl rfl (XP (η w5 _)) (Bu _ rfl) (by omega) (by unfold maxLen;omega) (by omega) (by simp;omega) _ rfl ?_;intro g6 cap6 w6 hO6 hgr6 hat6 hlt6;have hs6:=hgr6.size;have HL6:Hid (w6.heap[w1.heap.size]?=ς (γ #[ι κ 5,τ (Ar s),σ ν 0 0,σ ν 0 0,τ ⟨#[]⟩,σ ν 0 0,σ ν 0 0,σ a j cap] 64 (0,0))):=Bq (AC HL5.out (AE w5 (γ #[σ (ς ⟨g2,0,ν⟩) m2 cap2] 61))) hgr6 (hnb _ hLG);have HR6:Hid (w6.heap[w.heap.size]?=ς (γ #[ι κ 0,τ ⟨#[]⟩,σ ν 0 0,σ ν 0 0,τ ⟨#[]⟩,σ ν 0 0,σ ν 0 0,σ ν 0 0] 64 (0,0))):=Bq (AC HR5.out (AE w5 (γ #[σ (ς ⟨g2,0,ν⟩) m2 cap2] 61))) hgr6 (hnb _ hRG);have l76:w6.cell? ⟨w1.heap.size,7,ν⟩=ς (σ a j cap):=(ε _ _ 7 _ _ _ HL6.out).trans rfl;have lf76:w6.frozen? ⟨w1.heap.size,7,ν⟩=false:=ζ _ _ 7 _ _ HL6.out;refine hK.out _ _ (trivial) (λjH=>?_);clear hK K;try simp only [zS]
   refine wpAnyH_take (i:=6) (oi:=MP) (v:=ψ (ς ⟨w1.heap.size,7,ν⟩)) rfl (by kernel_rfl) (by kernel_rfl) (by kernel_rfl) (λ_ _ _ h=>h) (Xc ⟨by rfl,λx jS=>(by go_simp)⟩) jH ?_;try simp only [zS]
   refine rd 7 MO (λK hK=>?_);go_simp;refine hK.out _ _ (trivial) (λjH=>?_);clear hK K;try simp only [zS]
   refine XW (by kernel_rfl) ?_ _;have HL7:Hid ((w6.setCell ⟨w1.heap.size,7,ν⟩ (σ (ς ⟨g6,0,ν⟩) (j+1) cap6)).heap[w1.heap.size]?=ς (γ #[ι κ 5,τ (Ar s),σ ν 0 0,σ ν 0 0,τ ⟨#[]⟩,σ ν 0 0,σ ν 0 0,σ (ς ⟨g6,0,ν⟩) (j+1) cap6] 64 (0,0))):=π _ _ 7 _ _ _ HL6.out;have HR7:Hid ((w6.setCell ⟨w1.heap.size,7,ν⟩ (σ (ς ⟨g6,0,ν⟩) (j+1) cap6)).heap[w.heap.size]?=ς (γ #[ι κ 0,τ ⟨#[]⟩,σ ν 0 0,σ ν 0 0,τ ⟨#[]⟩,σ ν 0 0,σ ν 0 0,σ ν 0 0] 64 (0,0))):=AS HR6.out hneR;have hP6:PS w6 (w.heap.size+1) s (AT s u):=by rw [←hL2.place];exact PS.gr' hgr6 (hnb _ hBG) (hP5.later (AE w5 (γ #[σ (ς ⟨g2,0,ν⟩) m2 cap2] 61)))
   have hP7:PS (w6.setCell ⟨w1.heap.size,7,ν⟩ (σ (ς ⟨g6,0,ν⟩) (j+1) cap6)) (w.heap.size+1) s (AO (AT s) (AD s 1 (Ad s)) (j+1)):=by rw [HU.out];exact PS.grown (A8 w6 w1.heap.size 7 _) hneL.symm hP6
   have hb6:υ w.heap.size w w6:=RZ (AA hb5 (AE w5 (γ #[σ (ς ⟨g2,0,ν⟩) m2 cap2] 61))) hgr6 (λx hx=>hnb x (by omega));have hb7:υ w.heap.size w (w6.setCell ⟨w1.heap.size,7,ν⟩ (σ (ς ⟨g6,0,ν⟩) (j+1) cap6)):=Al hb6 (by omega);have hO7:=CS hO6 (L:=w1.heap.size) (i:=7) (v:=σ (ς ⟨g6,0,ν⟩) (j+1) cap6) hLG;have hs7:(w6.setCell ⟨w1.heap.size,7,ν⟩ (σ (ς ⟨g6,0,ν⟩) (j+1) cap6)).heap.size=w6.heap.size:=by simp
   have HX7:Hid (∀ i,i<j+1->(∀ x,(σ (ς ⟨g6,0,ν⟩) (j+1) cap6).ownBlock=ς x->(BW X j ⟨g2,m2,cap2⟩ i).g≠x)/\LsI (w6.setCell ⟨w1.heap.size,7,ν⟩ (σ (ς ⟨g6,0,ν⟩) (j+1) cap6)) w3.heap.size (w.heap.size+1) s (AD s 2 (AO (AT s) (AD s 1 (Ad s)) i)) (AY s 2 (AO (AT s) (AD s 1 (Ad s)) i)) (BW X j ⟨g2,m2,cap2⟩ i).m (BW X j ⟨g2,m2,cap2⟩ i).g (BW X j ⟨g2,m2,cap2⟩ i).c):=λi hi=>by
    by_cases e:i=j
    ·
     subst e;unfold BW;simp only [if_true]
     rw [HUj.out];refine⟨λx hx=>?_,?_⟩
     ·
      have hx':g6=x:=XM hx;rcases hat6 with e6 | e6
      · have:=hownb g6 e6;omega
      · omega
     · have hL3:LsI w5 w3.heap.size (w.heap.size+1) s (AD s 2 u) (AY s 2 u) m2 g2 cap2:=⟨Ck hL2.own (by omega),hL2.le,hL2.at'⟩;exact((hL3.later (AE w5 (γ #[σ (ς ⟨g2,0,ν⟩) m2 cap2] 61))).grR hgr6 (λe=>by have:=hownb g2 e.symm;omega)).gr (A8 w6 w1.heap.size 7 _) (by omega)
    ·
     unfold BW;rw [if_neg e];obtain⟨hne,hL⟩:=HXs.out i (by omega);have hil:=(hL.own.lt (X i).g rfl).2;have hib:=(hL.own.lt (X i).g rfl).1;refine⟨λx hx=>?_,?_⟩
     ·
      have hx':g6=x:=XM hx;rcases hat6 with e6 | e6
      · have:=hne g6 e6;omega
      · omega
     · exact((((hL.later (Bc wr)).gr hg5 (by omega)).later (AE w5 (γ #[σ (ς ⟨g2,0,ν⟩) m2 cap2] 61))).grR hgr6 (λe=>hne (X i).g e.symm rfl)).gr (A8 w6 w1.heap.size 7 _) (by omega)
   have Q9:F2 (BW X j ⟨g2,m2,cap2⟩) (j+1)=F2 X j ++ [σ (ς ⟨g2,0,ν⟩) m2 cap2]:=by
    rw [Eu,Fe];unfold BW;simp only [if_true]
   clear jH;go_wp2;go_roundw
   case rel=>exact⟨j+1,_,_,(BW X j ⟨g2,m2,cap2⟩),by omega,by go_num,HL7.out,HR7.out,by rw [Q9];exact hO7,HX7.out,hP7,hb7,by rw [hs7];omega⟩
   case measure=>simp [XX];omega
  ·
   go_simp;refine(hEu).mono ?_;rintro e w5 ⟨m2,g2,cap2,rfl,hL2,hP5,hg5⟩;have hs5:=hg5.size;have HL5:Hid (w5.heap[w1.heap.size]?=ς (γ #[ι κ 5,τ (Ar s),σ ν 0 0,σ ν 0 0,τ ⟨#[]⟩,σ ν 0 0,σ ν 0 0,σ a j cap] 64 (0,0))):=AW HLd.out hg5 hneL;have HR5:Hid (w5.heap[w.heap.size]?=ς (γ #[ι κ 0,τ ⟨#[]⟩,σ ν 0 0,σ ν 0 0,τ ⟨#[]⟩,σ ν 0 0,σ ν 0 0,σ ν 0 0] 64 (0,0))):=AW HRd.out hg5 hneRB;have hO5:=A0 hOd hg5 hBG;have hb5:υ w.heap.size w w5:=EI hbd hg5 (by omega);have l75:w5.cell? ⟨w1.heap.size,7,ν⟩=ς (σ a j cap):=(ε _ _ 7 _ _ _ HL5.out).trans rfl;have hs5a:(w5.alloc (γ #[σ (ς ⟨g2,0,ν⟩) m2 cap2] 61)).heap.size=w5.heap.size+1:=(by simp);have l75a:(w5.alloc (γ #[σ (ς ⟨g2,0,ν⟩) m2 cap2] 61)).cell? ⟨w1.heap.size,7,ν⟩=ς (σ a j cap):=AB (AE _ _) l75;have hg2b:=(hL2.own.lt g2 rfl).1;have hg2l:=(hL2.own.lt g2 rfl).2;refine hK.out _ _ (trivial) (λjH=>?_);clear hK K;try simp only [zS]
   refine wpAnyH_ready (rs:=[1,4]) (by kernel_rfl) (by simp) ?_;refine AllReadyH.cons (o:=MS) rfl (λK hK=>?_) (AllReadyH.cons (o:=MR) rfl (λK hK=>?_) AllReadyH.nil)
   ·
    go_simp;refine hK.out _ _ (trivial) (λjH=>?_);clear hK K;try simp only [zS]
    refine rd 4 MR (λK hK=>?_);go_simp;refine hK.out _ _ (trivial) (λjH=>?_);clear hK K;try simp only [zS]
    refine rd 5 MQ (λK hK=>?_);rw [if_pos (by kernel_rfl)];refine wp_append_lies _ _ _ _ rfl w3.heap.size 61 i0 (σ ν 0 0) 1 24 Tryz.underlying62 HI.out hz0 hz1 hz2 rfl (by omega) (σ a j cap) j _ rfl (hO5.alloc _) ⟨w5.heap.size,0,ν⟩ 1 1 [σ (ς ⟨g2,0,ν⟩) m2 cap2] rfl rfl (XP (η w5 _)) (Bu _ rfl) (by omega) (by unfold maxLen;omega) (by omega) (by simp;omega) _ rfl ?_;intro g6 cap6 w6 hO6 hgr6 hat6 hlt6;have hs6:=hgr6.size;have HL6:Hid (w6.heap[w1.heap.size]?=ς (γ #[ι κ 5,τ (Ar s),σ ν 0 0,σ ν 0 0,τ ⟨#[]⟩,σ ν 0 0,σ ν 0 0,σ a j cap] 64 (0,0))):=Bq (AC HL5.out (AE w5 (γ #[σ (ς ⟨g2,0,ν⟩) m2 cap2] 61))) hgr6 (hnb _ hLG);have HR6:Hid (w6.heap[w.heap.size]?=ς (γ #[ι κ 0,τ ⟨#[]⟩,σ ν 0 0,σ ν 0 0,τ ⟨#[]⟩,σ ν 0 0,σ ν 0 0,σ ν 0 0] 64 (0,0))):=Bq (AC HR5.out (AE w5 (γ #[σ (ς ⟨g2,0,ν⟩) m2 cap2] 61))) hgr6 (hnb _ hRG);have l76:w6.cell? ⟨w1.heap.size,7,ν⟩=ς (σ a j cap):=(ε _ _ 7 _ _ _ HL6.out).trans rfl;have lf76:w6.frozen? ⟨w1.heap.size,7,ν⟩=false:=ζ _ _ 7 _ _ HL6.out;refine hK.out _ _ (trivial) (λjH=>?_);clear hK K;try simp only [zS]
    refine wpAnyH_take (i:=6) (oi:=MP) (v:=ψ (ς ⟨w1.heap.size,7,ν⟩)) rfl (by kernel_rfl) (by kernel_rfl) (by kernel_rfl) (λ_ _ _ h=>h) (Xc ⟨by rfl,λx jS=>(by go_simp)⟩) jH ?_;try simp only [zS]
    refine rd 7 MO (λK hK=>?_);go_simp;refine hK.out _ _ (trivial) (λjH=>?_);clear hK K;try simp only [zS]
    refine XW (by kernel_rfl) ?_ _;have HL7:Hid ((w6.setCell ⟨w1.heap.size,7,ν⟩ (σ (ς ⟨g6,0,ν⟩) (j+1) cap6)).heap[w1.heap.size]?=ς (γ #[ι κ 5,τ (Ar s),σ ν 0 0,σ ν 0 0,τ ⟨#[]⟩,σ ν 0 0,σ ν 0 0,σ (ς ⟨g6,0,ν⟩) (j+1) cap6] 64 (0,0))):=π _ _ 7 _ _ _ HL6.out;have HR7:Hid ((w6.setCell ⟨w1.heap.size,7,ν⟩ (σ (ς ⟨g6,0,ν⟩) (j+1) cap6)).heap[w.heap.size]?=ς (γ #[ι κ 0,τ ⟨#[]⟩,σ ν 0 0,σ ν 0 0,τ ⟨#[]⟩,σ ν 0 0,σ ν 0 0,σ ν 0 0] 64 (0,0))):=AS HR6.out hneR;have hP6:PS w6 (w.heap.size+1) s (AT s u):=by rw [←hL2.place];exact PS.gr' hgr6 (hnb _ hBG) (hP5.later (AE w5 (γ #[σ (ς ⟨g2,0,ν⟩) m2 cap2] 61)))
    have hP7:PS (w6.setCell ⟨w1.heap.size,7,ν⟩ (σ (ς ⟨g6,0,ν⟩) (j+1) cap6)) (w.heap.size+1) s (AO (AT s) (AD s 1 (Ad s)) (j+1)):=by rw [HU.out];exact PS.grown (A8 w6 w1.heap.size 7 _) hneL.symm hP6
    have hb6:υ w.heap.size w w6:=RZ (AA hb5 (AE w5 (γ #[σ (ς ⟨g2,0,ν⟩) m2 cap2] 61))) hgr6 (λx hx=>hnb x (by omega));have hb7:υ w.heap.size w (w6.setCell ⟨w1.heap.size,7,ν⟩ (σ (ς ⟨g6,0,ν⟩) (j+1) cap6)):=Al hb6 (by omega);have hO7:=CS hO6 (L:=w1.heap.size) (i:=7) (v:=σ (ς ⟨g6,0,ν⟩) (j+1) cap6) hLG;have hs7:(w6.setCell ⟨w1.heap.size,7,ν⟩ (σ (ς ⟨g6,0,ν⟩) (j+1) cap6)).heap.size=w6.heap.size:=by simp
    have HX7:Hid (∀ i,i<j+1->(∀ x,(σ (ς ⟨g6,0,ν⟩) (j+1) cap6).ownBlock=ς x->(BW X j ⟨g2,m2,cap2⟩ i).g≠x)/\LsI (w6.setCell ⟨w1.heap.size,7,ν⟩ (σ (ς ⟨g6,0,ν⟩) (j+1) cap6)) w3.heap.size (w.heap.size+1) s (AD s 2 (AO (AT s) (AD s 1 (Ad s)) i)) (AY s 2 (AO (AT s) (AD s 1 (Ad s)) i)) (BW X j ⟨g2,m2,cap2⟩ i).m (BW X j ⟨g2,m2,cap2⟩ i).g (BW X j ⟨g2,m2,cap2⟩ i).c):=λi hi=>by
     by_cases e:i=j
     ·
      subst e;unfold BW;simp only [if_true]
      rw [HUj.out];refine⟨λx hx=>?_,?_⟩
      ·
       have hx':g6=x:=XM hx;rcases hat6 with e6 | e6
       · have:=hownb g6 e6;omega
       · omega
      · have hL3:LsI w5 w3.heap.size (w.heap.size+1) s (AD s 2 u) (AY s 2 u) m2 g2 cap2:=⟨Ck hL2.own (by omega),hL2.le,hL2.at'⟩;exact((hL3.later (AE w5 (γ #[σ (ς ⟨g2,0,ν⟩) m2 cap2] 61))).grR hgr6 (λe=>by have:=hownb g2 e.symm;omega)).gr (A8 w6 w1.heap.size 7 _) (by omega)
     ·
      unfold BW;rw [if_neg e];obtain⟨hne,hL⟩:=HXs.out i (by omega);have hil:=(hL.own.lt (X i).g rfl).2;have hib:=(hL.own.lt (X i).g rfl).1;refine⟨λx hx=>?_,?_⟩
      ·
       have hx':g6=x:=XM hx;rcases hat6 with e6 | e6
       · have:=hne g6 e6;omega
       · omega
      · exact((((hL.later (Bc wr)).gr hg5 (by omega)).later (AE w5 (γ #[σ (ς ⟨g2,0,ν⟩) m2 cap2] 61))).grR hgr6 (λe=>hne (X i).g e.symm rfl)).gr (A8 w6 w1.heap.size 7 _) (by omega)
    have Q9:F2 (BW X j ⟨g2,m2,cap2⟩) (j+1)=F2 X j ++ [σ (ς ⟨g2,0,ν⟩) m2 cap2]:=by
     rw [Eu,Fe];unfold BW;simp only [if_true]
    clear jH;go_wp2;go_roundw
    case rel=>exact⟨j+1,_,_,(BW X j ⟨g2,m2,cap2⟩),by omega,by go_num,HL7.out,HR7.out,by rw [Q9];exact hO7,HX7.out,hP7,hb7,by rw [hs7];omega⟩
    case measure=>simp [XX];omega
   ·
    go_simp;refine hK.out _ _ (trivial) (λjH=>?_);clear hK K;try simp only [zS]
    refine rd 1 MS (λK hK=>?_);go_simp;refine hK.out _ _ (trivial) (λjH=>?_);clear hK K;try simp only [zS]
    refine rd 5 MQ (λK hK=>?_);rw [if_pos (by kernel_rfl)];refine wp_append_lies _ _ _ _ rfl w3.heap.size 61 i0 (σ ν 0 0) 1 24 Tryz.underlying62 HI.out hz0 hz1 hz2 rfl (by omega) (σ a j cap) j _ rfl (hO5.alloc _) ⟨w5.heap.size,0,ν⟩ 1 1 [σ (ς ⟨g2,0,ν⟩) m2 cap2] rfl rfl (XP (η w5 _)) (Bu _ rfl) (by omega) (by unfold maxLen;omega) (by omega) (by simp;omega) _ rfl ?_;intro g6 cap6 w6 hO6 hgr6 hat6 hlt6;have hs6:=hgr6.size;have HL6:Hid (w6.heap[w1.heap.size]?=ς (γ #[ι κ 5,τ (Ar s),σ ν 0 0,σ ν 0 0,τ ⟨#[]⟩,σ ν 0 0,σ ν 0 0,σ a j cap] 64 (0,0))):=Bq (AC HL5.out (AE w5 (γ #[σ (ς ⟨g2,0,ν⟩) m2 cap2] 61))) hgr6 (hnb _ hLG);have HR6:Hid (w6.heap[w.heap.size]?=ς (γ #[ι κ 0,τ ⟨#[]⟩,σ ν 0 0,σ ν 0 0,τ ⟨#[]⟩,σ ν 0 0,σ ν 0 0,σ ν 0 0] 64 (0,0))):=Bq (AC HR5.out (AE w5 (γ #[σ (ς ⟨g2,0,ν⟩) m2 cap2] 61))) hgr6 (hnb _ hRG);have l76:w6.cell? ⟨w1.heap.size,7,ν⟩=ς (σ a j cap):=(ε _ _ 7 _ _ _ HL6.out).trans rfl;have lf76:w6.frozen? ⟨w1.heap.size,7,ν⟩=false:=ζ _ _ 7 _ _ HL6.out;refine hK.out _ _ (trivial) (λjH=>?_);clear hK K;try simp only [zS]
    refine wpAnyH_take (i:=6) (oi:=MP) (v:=ψ (ς ⟨w1.heap.size,7,ν⟩)) rfl (by kernel_rfl) (by kernel_rfl) (by kernel_rfl) (λ_ _ _ h=>h) (Xc ⟨by rfl,λx jS=>(by go_simp)⟩) jH ?_;try simp only [zS]
    refine rd 7 MO (λK hK=>?_);go_simp;refine hK.out _ _ (trivial) (λjH=>?_);clear hK K;try simp only [zS]
    refine XW (by kernel_rfl) ?_ _;have HL7:Hid ((w6.setCell ⟨w1.heap.size,7,ν⟩ (σ (ς ⟨g6,0,ν⟩) (j+1) cap6)).heap[w1.heap.size]?=ς (γ #[ι κ 5,τ (Ar s),σ ν 0 0,σ ν 0 0,τ ⟨#[]⟩,σ ν 0 0,σ ν 0 0,σ (ς ⟨g6,0,ν⟩) (j+1) cap6] 64 (0,0))):=π _ _ 7 _ _ _ HL6.out;have HR7:Hid ((w6.setCell ⟨w1.heap.size,7,ν⟩ (σ (ς ⟨g6,0,ν⟩) (j+1) cap6)).heap[w.heap.size]?=ς (γ #[ι κ 0,τ ⟨#[]⟩,σ ν 0 0,σ ν 0 0,τ ⟨#[]⟩,σ ν 0 0,σ ν 0 0,σ ν 0 0] 64 (0,0))):=AS HR6.out hneR;have hP6:PS w6 (w.heap.size+1) s (AT s u):=by rw [←hL2.place];exact PS.gr' hgr6 (hnb _ hBG) (hP5.later (AE w5 (γ #[σ (ς ⟨g2,0,ν⟩) m2 cap2] 61)))
    have hP7:PS (w6.setCell ⟨w1.heap.size,7,ν⟩ (σ (ς ⟨g6,0,ν⟩) (j+1) cap6)) (w.heap.size+1) s (AO (AT s) (AD s 1 (Ad s)) (j+1)):=by rw [HU.out];exact PS.grown (A8 w6 w1.heap.size 7 _) hneL.symm hP6
    have hb6:υ w.heap.size w w6:=RZ (AA hb5 (AE w5 (γ #[σ (ς ⟨g2,0,ν⟩) m2 cap2] 61))) hgr6 (λx hx=>hnb x (by omega));have hb7:υ w.heap.size w (w6.setCell ⟨w1.heap.size,7,ν⟩ (σ (ς ⟨g6,0,ν⟩) (j+1) cap6)):=Al hb6 (by omega);have hO7:=CS hO6 (L:=w1.heap.size) (i:=7) (v:=σ (ς ⟨g6,0,ν⟩) (j+1) cap6) hLG;have hs7:(w6.setCell ⟨w1.heap.size,7,ν⟩ (σ (ς ⟨g6,0,ν⟩) (j+1) cap6)).heap.size=w6.heap.size:=by simp
    have HX7:Hid (∀ i,i<j+1->(∀ x,(σ (ς ⟨g6,0,ν⟩) (j+1) cap6).ownBlock=ς x->(BW X j ⟨g2,m2,cap2⟩ i).g≠x)/\LsI (w6.setCell ⟨w1.heap.size,7,ν⟩ (σ (ς ⟨g6,0,ν⟩) (j+1) cap6)) w3.heap.size (w.heap.size+1) s (AD s 2 (AO (AT s) (AD s 1 (Ad s)) i)) (AY s 2 (AO (AT s) (AD s 1 (Ad s)) i)) (BW X j ⟨g2,m2,cap2⟩ i).m (BW X j ⟨g2,m2,cap2⟩ i).g (BW X j ⟨g2,m2,cap2⟩ i).c):=λi hi=>by
     by_cases e:i=j
     ·
      subst e;unfold BW;simp only [if_true]
      rw [HUj.out];refine⟨λx hx=>?_,?_⟩
      ·
       have hx':g6=x:=XM hx;rcases hat6 with e6 | e6
       · have:=hownb g6 e6;omega
       · omega
      · have hL3:LsI w5 w3.heap.size (w.heap.size+1) s (AD s 2 u) (AY s 2 u) m2 g2 cap2:=⟨Ck hL2.own (by omega),hL2.le,hL2.at'⟩;exact((hL3.later (AE w5 (γ #[σ (ς ⟨g2,0,ν⟩) m2 cap2] 61))).grR hgr6 (λe=>by have:=hownb g2 e.symm;omega)).gr (A8 w6 w1.heap.size 7 _) (by omega)
     ·
      unfold BW;rw [if_neg e];obtain⟨hne,hL⟩:=HXs.out i (by omega);have hil:=(hL.own.lt (X i).g rfl).2;have hib:=(hL.own.lt (X i).g rfl).1;refine⟨λx hx=>?_,?_⟩
      ·
       have hx':g6=x:=XM hx;rcases hat6 with e6 | e6
       · have:=hne g6 e6;omega
       · omega
      · exact((((hL.later (Bc wr)).gr hg5 (by omega)).later (AE w5 (γ #[σ (ς ⟨g2,0,ν⟩) m2 cap2] 61))).grR hgr6 (λe=>hne (X i).g e.symm rfl)).gr (A8 w6 w1.heap.size 7 _) (by omega)
    have Q9:F2 (BW X j ⟨g2,m2,cap2⟩) (j+1)=F2 X j ++ [σ (ς ⟨g2,0,ν⟩) m2 cap2]:=by
     rw [Eu,Fe];unfold BW;simp only [if_true]
    clear jH;go_wp2;go_roundw
    case rel=>exact⟨j+1,_,_,(BW X j ⟨g2,m2,cap2⟩),by omega,by go_num,HL7.out,HR7.out,by rw [Q9];exact hO7,HX7.out,hP7,hb7,by rw [hs7];omega⟩
    case measure=>simp [XX];omega
theorem JR(s:ByteArray)(w:ο)(hs:s.size<=1048576):XR μ 17 #[τ s] w λe w'=>Ht w w' s e:=by
 by_cases h1:60000<s.size
 · exact UK s w hs h1
 by_cases e1:AK s 1 (ς 0)=1
 · exact UP s w hs e1 h1
 by_cases e2:AK s 1 (ς 0)=2
 · exact UO s w hs e2 h1
 by_cases e3:AK s 1 (ς 0)=3
 · exact UN s w hs e3 h1
 by_cases e4:AK s 1 (ς 0)=4
 · exact UM s w hs e4 h1
 by_cases e5:AK s 1 (ς 0)=5
 · exact UL s w hs e5 h1
 by_cases h0:s.size=0
 · exact Rz s w hs e1 e2 e3 e4 e5 h0 h1
 · exact R0 s w hs e1 e2 e3 e4 e5 h0 h1
