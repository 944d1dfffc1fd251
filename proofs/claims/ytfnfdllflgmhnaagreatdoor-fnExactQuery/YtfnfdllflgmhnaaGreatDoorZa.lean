import Derived.Test.YtfnfdllflgmhnaaGreatDoorWg
import Derived.Test.YtfnfdllflgmhnaaGreatDoorRy
import Derived.Test.YtfnfdllflgmhnaaGreatDoorRzc
import Derived.Test.YtfnfdllflgmhnaaGreatDoorVb
import Derived.Test.YtfnfdllflgmhnaaGreatDoorWc
open Array renaming getElem?_eq_some_iff → XS
open Go renaming Calls → XR, Value → XU, World → ο, bodyPost_ret → XL, cell_of_row → ε, frozen_of_row → ζ, heap_alloc_new → η, heap_setCell_same → π, results_cell_row → Xd
open Go.Ending renaming returned → ρ
open Go.IntKind renaming i64 → κ
open Go.Obj renaming cells → γ
open Go.Proofs.Tryz renaming prog → μ
open Go.RowKit renaming Below → υ, intOf → XX
open Go.RowKit.Below renaming refl → Xa
open Go.Value renaming agg → χ, int → ι, slice → σ, string → τ, bool → β, tuple → θ
open Nat renaming le_refl → XK, le_trans → Xe
open Option renaming none → ν, some → ς
open Option.some renaming inj → XM
open Or renaming inl → Xc, inr → Xi
namespace Go.Proofs.YtfnfdllflgmhnaaGreatDoor
open Go.RowKit Go.Maps Go.WideMaps
set_option maxRecDepth 20000
set_option maxHeartbeats 8000000
def KpG(G:Nat)(w w':ο):Prop:=∀ b o,G<=b->w.heap[b]?=ς o->w'.heap[b]?=ς o
theorem KpG.of{w w':ο}(G:Nat)(hb:υ w.heap.size w w'):KpG G w w':=λ_ _ _ h=>AC h hb
theorem KpG.trans{G:Nat}{a b c:ο}(h:KpG G a b)(k:KpG G b c):KpG G a c:=λx v hx hc=>k x v hx (h x v hx hc)
theorem KpG.set{G B i:Nat}{w:ο}{v:XU}(h:B<G):KpG G w (w.setCell ⟨B,i,ν⟩ v):=λx u hx hc=>AS hc (by omega)
theorem KpG.r{G lo hi:Nat}{w w':ο}(h:KpG G w w')(hG:G<=lo):KpR lo hi w w':=λg h1 _ o hg=>h g o (by omega) hg
theorem SR.wide{w w':ο}{lo lo' hi hi':Nat}{u t:TypeId}{g n:Nat}{m:Nat->Nat}(h:SR w lo hi u t g n m)(hb:υ w.heap.size w w')(k1:lo'<=lo)(k2:hi<=hi'):SR w' lo' hi' u t g n m:=(h.kp (KpR.below hb)).hi k1 k2
theorem STb.kp{w w':ο}{lo hi:Nat}{g n:Nat}{T:Nat->Td}(h:STb w lo hi g n T)(k:KpR lo hi w w'):STb w' lo hi g n T:=by
 obtain⟨h1,h2,cur,h3,h4,h5⟩:=h;refine⟨h1,h2,cur,k g h1 h2 _ h3,h4,λj hj=>?_⟩;obtain⟨e1,e2,g1,g2,e3,e4,e5,e6⟩:=h5 j hj;exact⟨e1,e2,g1,g2,e3,e4,e5.kp k,e6.kp k⟩
theorem STb.hi{w:ο}{lo hi lo' hi':Nat}{g n:Nat}{T:Nat->Td}(h:STb w lo hi g n T)(k1:lo'<=lo)(k2:hi<=hi'):STb w lo' hi' g n T:=by
 obtain⟨h1,h2,cur,h3,h4,h5⟩:=h;refine⟨by omega,by omega,cur,h3,h4,λj hj=>?_⟩;obtain⟨e1,e2,g1,g2,e3,e4,e5,e6⟩:=h5 j hj;exact⟨e1,e2,g1,g2,e3,e4,e5.hi k1 k2,e6.hi k1 k2⟩
theorem TF.tn{G g n:Nat}{w:ο}{T:Nat->Td}(h:TF G w g n T):TN w g n T:=λj hj=>by
 obtain⟨g1,g2,h1,h2,c0,c1,c2,hC,hO,hs⟩:=h j hj;exact⟨g1,g2,_,c0,c1,c2,XK _,hC,hO.ol,hs⟩
theorem Rh(s:ByteArray)(n:Nat)(C:Nat->Clm)(r:Nat)(m:Nat->Nat)(R:Nat->Nat->Itm)(ac:Option Addr)(cc:Nat)(ar:Option Addr)(cr:Nat)(w:ο)(hC:CL w ac n C)(hR:OL w ar r m R)(hn:n<=1048576)(hr:r<=1048576) :
 XR μ 84 #[χ #[τ s,σ ac n cc,σ ar r cr]] w λe w'=>∃ g1 g2,w.heap.size<=g1/\w.heap.size<=g2/\e=ρ (χ #[τ s,σ (ς ⟨g1,0,ν⟩) n n,σ (ς ⟨g2,0,ν⟩) r r])/\CL w' (ς ⟨g1,0,ν⟩) n C/\OF w.heap.size w' g2 r m R/\WR w' w.heap.size w'.heap.size 92 2 (ς ⟨g1,0,ν⟩) n/\SR w' w.heap.size w'.heap.size 60 94 g2 r m/\υ w.heap.size w w':=by
 have hR0:=Q3.new w #[τ s,σ ac n cc,σ ar r cr] #[τ ⟨#[]⟩,σ ν 0 0,σ ν 0 0] #[τ s,σ ν 0 0,σ ν 0 0];have hbW:υ w.heap.size w (((w.alloc (γ #[τ s,σ ac n cc,σ ar r cr] 132)).alloc (γ #[τ ⟨#[]⟩,σ ν 0 0,σ ν 0 0] 100)).alloc (γ #[τ s,σ ν 0 0,σ ν 0 0] 100)):=A7 _ _ _ _;have hW:(((w.alloc (γ #[τ s,σ ac n cc,σ ar r cr] 132)).alloc (γ #[τ ⟨#[]⟩,σ ν 0 0,σ ν 0 0] 100)).alloc (γ #[τ s,σ ν 0 0,σ ν 0 0] 100)).heap.size=w.heap.size+1+1+1:=by simp
 obtain⟨G,hG⟩:∃ G:Nat,G=w.heap.size+1+1+1:=⟨_,rfl⟩;go_enter Tryz.func84,Tryz.ntmps84
 go_wp2_with (first | (go_at_call 138;refine(OH _ _ _ m R _ (hR.later (Al B1 (by omega))) hr).mono ?_;rintro e w2 ⟨g2,hg2,rfl,hL2,hS2,hb2⟩;have r2:Q3 w2 w.heap.size #[τ s,σ ac n cc,σ ar r cr] #[τ ⟨#[]⟩,σ ν 0 0,σ ν 0 0] #[τ s,σ (ς ⟨g1,0,ν⟩) n n,σ ν 0 0]:=(r1.set).later hb2;have B2:υ w.heap.size w w2:=AA (Al B1 (by omega)) hb2;have s2:w1.heap.size<=w2.heap.size:=(by simpa using hb2.size);have hGs:G<=(w1.setCell ⟨w.heap.size+1+1,1,ν⟩ (σ (ς ⟨g1,0,ν⟩) n n)).heap.size:=(by simp;omega);have hG2:G<=g2:=Xe hGs hg2;have K2:Kp G w1 w2:=(Kp.set (by omega)).trans (Kp.of G hb2);have N2:KpG G w1 w2:=(KpG.set (by omega)).trans (KpG.of G hb2);have x2_0:w2.cell? ⟨w.heap.size+1+1,0,ν⟩=ς (τ s):=(ε _ _ 0 _ _ _ r2.x).trans rfl;have x2_1:w2.cell? ⟨w.heap.size+1+1,1,ν⟩=ς (σ (ς ⟨g1,0,ν⟩) n n):=(ε _ _ 1 _ _ _ r2.x).trans rfl;have z2_0:w2.cell? ⟨w.heap.size+1,0,ν⟩=ς (τ ⟨#[]⟩):=(ε _ _ 0 _ _ _ r2.z).trans rfl;have zf_0:w2.frozen? ⟨w.heap.size+1,0,ν⟩=false:=ζ _ _ 0 _ _ r2.z;have z2_1:w2.cell? ⟨w.heap.size+1,1,ν⟩=ς (σ ν 0 0):=(ε _ _ 1 _ _ _ r2.z).trans rfl;have zf_1:w2.frozen? ⟨w.heap.size+1,1,ν⟩=false:=ζ _ _ 1 _ _ r2.z;have z2_2:w2.cell? ⟨w.heap.size+1,2,ν⟩=ς (σ ν 0 0):=(ε _ _ 2 _ _ _ r2.z).trans rfl;have zf_2:w2.frozen? ⟨w.heap.size+1,2,ν⟩=false:=ζ _ _ 2 _ _ r2.z;have m2_2:w2.cell? ⟨w.heap.size+1+1,2,ν⟩=ς (σ ν 0 0):=(ε _ _ 2 _ _ _ r2.x).trans rfl;have f2_2:w2.frozen? ⟨w.heap.size+1+1,2,ν⟩=false:=ζ _ _ 2 _ _ r2.x) | (go_at_call 137;refine(OI _ _ _ C _ (hC.later hbW) hn).mono ?_;rintro e w1 ⟨g1,hg1,rfl,hL1,hS1,hb1⟩;have r1:Q3 w1 w.heap.size #[τ s,σ ac n cc,σ ar r cr] #[τ ⟨#[]⟩,σ ν 0 0,σ ν 0 0] #[τ s,σ ν 0 0,σ ν 0 0]:=(hR0).later hb1;have B1:υ w.heap.size w w1:=AA hbW hb1;have s1:=hb1.size;have hG1:G<=g1:=(by omega);have l1_2:w1.cell? ⟨w.heap.size,2,ν⟩=ς (σ ar r cr):=(ε _ _ 2 _ _ _ r1.a).trans rfl;have m1_1:w1.cell? ⟨w.heap.size+1+1,1,ν⟩=ς (σ ν 0 0):=(ε _ _ 1 _ _ _ r1.x).trans rfl;have f1_1:w1.frozen? ⟨w.heap.size+1+1,1,ν⟩=false:=ζ _ _ 1 _ _ r1.x))
 have KV:∀ v0 v1 v2 v3,Kp G w2 ((((w2.setCell ⟨w.heap.size+1+1,2,ν⟩ v0).setCell ⟨w.heap.size+1,0,ν⟩ v1).setCell ⟨w.heap.size+1,1,ν⟩ v2).setCell ⟨w.heap.size+1,2,ν⟩ v3):=λv0 v1 v2 v3=>(((Kp.set (by omega)).trans (Kp.set (by omega))).trans (Kp.set (by omega))).trans (Kp.set (by omega));have NV:∀ v0 v1 v2 v3,KpG G w2 ((((w2.setCell ⟨w.heap.size+1+1,2,ν⟩ v0).setCell ⟨w.heap.size+1,0,ν⟩ v1).setCell ⟨w.heap.size+1,1,ν⟩ v2).setCell ⟨w.heap.size+1,2,ν⟩ v3):=λv0 v1 v2 v3=>(((KpG.set (by omega)).trans (KpG.set (by omega))).trans (KpG.set (by omega))).trans (KpG.set (by omega));have BV:∀ v0 v1 v2 v3,υ w.heap.size w ((((w2.setCell ⟨w.heap.size+1+1,2,ν⟩ v0).setCell ⟨w.heap.size+1,0,ν⟩ v1).setCell ⟨w.heap.size+1,1,ν⟩ v2).setCell ⟨w.heap.size+1,2,ν⟩ v3):=λv0 v1 v2 v3=>Al (Al (Al (Al B2 (by omega)) (by omega)) (by omega)) (by omega);have RV:=λv0 v1 v2 v3=>π _ _ 2 _ _ v3 (π _ _ 1 _ _ v2 (π _ _ 0 _ _ v1 (AS (B:=w.heap.size+1+1) (B':=w.heap.size+1) (i:=2) (v:=v0) r2.z (by omega))));refine XL (v:=χ #[τ s,σ (ς ⟨g1,0,ν⟩) n n,σ (ς ⟨g2,0,ν⟩) r r]) (Xd Tryz.results84 _ _ (w.heap.size+1) 100 _ (0,0) _ rfl (RV _ _ _ _) Tryz.underlying100 rfl (by kernel_rfl)) rfl ⟨g1,g2,by omega,by omega,rfl,?_,?_,(hS1.kp ((N2.trans (NV _ _ _ _)).r (by omega))).hi (by omega) (by simp;omega),(hS2.kp ((NV _ _ _ _).r hGs)).hi (by omega) (by simp),BV _ _ _ _⟩
 · exact hL1.kp (K2.trans (KV _ _ _ _)) hG1
 ·
  have hq:=hL2.kp (KV (σ (ς ⟨g2,0,ν⟩) r r) (τ s) (σ (ς ⟨g1,0,ν⟩) n n) (σ (ς ⟨g2,0,ν⟩) r r)) hG2 hGs;exact λk hk=>by
   obtain⟨q,h1,h2,h3,h4⟩:=hq k hk;exact⟨q,by omega,h2,h3,h4⟩
theorem OG(a:Option Addr)(n c:Nat)(T:Nat->Td)(w:ο)(h:TL w a n T)(hn:n<=1048576) :
 XR μ 49 #[σ a n c] w λe w'=>∃ g,w.heap.size<=g/\e=ρ (σ (ς ⟨g,0,ν⟩) n n)/\TF w.heap.size w' g n T/\STb w' w.heap.size w'.heap.size g n T/\υ w.heap.size w w':=by
 have hmk:=C1 (t:=43) Tryz.underlying43 Tryz.infoTab n hn (by omega);go_enter Tryz.func49,Tryz.ntmps49
 go_wp2;clear hmk;go_loopw [4] (λi wr=>∃ (k:Nat) (cur:Array XU),k<=n/\i=ι κ k/\wr.heap[w.heap.size]?=ς (γ cur 100 (0,0))/\cur.size=n * 3/\(∀ j,j<k->∃ g1 g2,w.heap.size+1<=g1/\w.heap.size+1<=g2/\cur[j * 3]?=ς (τ (T j).s)/\cur[j * 3+1]?=ς (σ (ς ⟨g1,0,ν⟩) (T j).n (T j).n)/\cur[j * 3+2]?=ς (σ (ς ⟨g2,0,ν⟩) (T j).r (T j).r)/\CL wr (ς ⟨g1,0,ν⟩) (T j).n (T j).C/\OF (w.heap.size+1) wr g2 (T j).r (T j).m (T j).R/\WR wr (w.heap.size+1) wr.heap.size 92 2 (ς ⟨g1,0,ν⟩) (T j).n/\SR wr (w.heap.size+1) wr.heap.size 60 94 g2 (T j).r (T j).m)/\υ w.heap.size w wr) (λi _=>n - (XX i).toNat)
 case atStart=>exact⟨0,_,by omega,rfl,η _ _,Bv _ _,λj hj=>by omega,AE _ _⟩
 case round=>
  obtain⟨k,cur,hk,rfl,hG,hsz,hall,hb⟩:=hrel;have HG:Hid (wr.heap[w.heap.size]?=ς (γ cur 100 (0,0))):=hG;clear hG;by_cases hlt:k<n
  ·
   obtain⟨b,off,ac,cc,ar,cr,rfl,c0,c1,c2,hC,hO,hs⟩:=h.later hb k hlt;obtain⟨v0,hv0⟩:=there (A:=cur) (k:=k * 3) (by omega);obtain⟨v1,hv1⟩:=there (A:=cur) (k:=k * 3+1) (by omega);obtain⟨v2,hv2⟩:=there (A:=cur) (k:=k * 3+2) (by omega);have hlw:=(XS.1 HG.out).1;go_wp2_with (go_at_call 84;refine(Rh _ _ _ _ _ _ ac cc ar cr _ hC hO hs.co.1 hs.ro.1).mono ?_;rintro e w1 ⟨g1,g2,hg1,hg2,rfl,hC1,hO1,hW1,hS1,hb1⟩;have HG1:Hid (w1.heap[w.heap.size]?=ς (γ cur 100 (0,0))):=(hb1.block _ hlw).trans HG.out;have e0:w1.cell? ⟨w.heap.size,k * 3,ν⟩=ς v0:=(ε w1 _ _ _ _ _ HG1.out).trans hv0;have f0:w1.frozen? ⟨w.heap.size,k * 3,ν⟩=false:=ζ w1 _ _ _ _ HG1.out;have e1:w1.cell? ⟨w.heap.size,k * 3+1,ν⟩=ς v1:=(ε w1 _ _ _ _ _ HG1.out).trans hv1;have f1:w1.frozen? ⟨w.heap.size,k * 3+1,ν⟩=false:=ζ w1 _ _ _ _ HG1.out;have e2:w1.cell? ⟨w.heap.size,k * 3+2,ν⟩=ς v2:=(ε w1 _ _ _ _ _ HG1.out).trans hv2;have f2:w1.frozen? ⟨w.heap.size,k * 3+2,ν⟩=false:=ζ w1 _ _ _ _ HG1.out;have hbo:=hb1;replace hb1:=AA hb hb1)
   have KV:∀ u0 u1 u2,Kp (w.heap.size+1) w1 (((w1.setCell ⟨w.heap.size,k * 3,ν⟩ u0).setCell ⟨w.heap.size,k * 3+1,ν⟩ u1).setCell ⟨w.heap.size,k * 3+2,ν⟩ u2):=λu0 u1 u2=>((Kp.set (by omega)).trans (Kp.set (by omega))).trans (Kp.set (by omega));have NV:∀ u0 u1 u2,KpG (w.heap.size+1) w1 (((w1.setCell ⟨w.heap.size,k * 3,ν⟩ u0).setCell ⟨w.heap.size,k * 3+1,ν⟩ u1).setCell ⟨w.heap.size,k * 3+2,ν⟩ u2):=λu0 u1 u2=>((KpG.set (by omega)).trans (KpG.set (by omega))).trans (KpG.set (by omega));have KO:Kp (w.heap.size+1) wr w1:=Kp.of _ hbo;go_roundw
   case rel=>
    refine⟨k+1,(((cur.setIfInBounds (k * 3) (τ (T k).s)).setIfInBounds (k * 3+1) (σ (ς ⟨g1,0,ν⟩) (T k).n (T k).n)).setIfInBounds (k * 3+2) (σ (ς ⟨g2,0,ν⟩) (T k).r (T k).r)),by omega,by go_num,(π _ _ _ _ _ _ (π _ _ _ _ _ _ (π _ _ _ _ _ _ HG1.out))),by simpa using hsz,λj hj=>?_,(((hb1.setCell (by simp) _).setCell (by simp) _).setCell (by simp) _)⟩;by_cases e:j=k
    ·
     subst e;refine⟨g1,g2,by omega,by omega,(setA (setA (Df (by omega)) (by omega)) (by omega)),(setA (Df (by simp only [Array.size_setIfInBounds];omega)) (by omega)),(Df (by simp only [Array.size_setIfInBounds];omega)),hC1.kp (KV _ _ _) (by omega),?_,(hW1.kp ((NV _ _ _).r (by omega))).hi (by omega) (by simp),(hS1.kp ((NV _ _ _).r (by omega))).hi (by omega) (by simp)⟩;have hq:=hO1.kp (KV (τ (T j).s) (σ (ς ⟨g1,0,ν⟩) (T j).n (T j).n) (σ (ς ⟨g2,0,ν⟩) (T j).r (T j).r)) (by omega) (by omega);exact λq hq'=>by
      obtain⟨x,h1,h2,h3,h4⟩:=hq q hq';exact⟨x,by omega,h2,h3,h4⟩
    · obtain⟨p1,p2,hp1,hp2,x0,x1,x2,hC2,hO2,hW2,hS2⟩:=hall j (by omega);exact⟨p1,p2,hp1,hp2,(setA (setA (setA x0 (by omega)) (by omega)) (by omega)),(setA (setA (setA x1 (by omega)) (by omega)) (by omega)),(setA (setA (setA x2 (by omega)) (by omega)) (by omega)),hC2.kp (KO.trans (KV _ _ _)) hp1,hO2.kp (KO.trans (KV _ _ _)) hp2 (XK _),(hW2.kp (((KpG.of _ hbo).trans (NV _ _ _)).r (XK _))).hi (XK _) (by have:=hbo.size;simp;omega),(hS2.kp (((KpG.of _ hbo).trans (NV _ _ _)).r (XK _))).hi (XK _) (by have:=hbo.size;simp;omega)⟩
   case measure=>simp [XX];omega
  ·
   obtain rfl:k=n:=by omega
   go_wp2;go_ret
   refine⟨_,XK _,rfl,λj hj=>?_,⟨XK _,(XS.1 HG.out).1,cur,HG.out,by omega,λj hj=>?_⟩,hb⟩;rotate_left
   · obtain⟨p1,p2,hp1,hp2,x0,x1,x2,-,-,hW2,hS2⟩:=hall j hj;obtain⟨_,_,_,_,_,_,_,_,_,_,_,_,hs⟩:=h j hj;exact⟨hs.co.1,hs.ro.1,p1,p2,x1,x2,hW2.hi (by omega) (XK _),hS2.hi (by omega) (XK _)⟩
   obtain⟨p1,p2,hp1,hp2,x0,x1,x2,hC2,hO2,-,-⟩:=hall j hj;obtain⟨_,_,_,_,_,_,_,_,_,_,_,_,hs⟩:=h j hj;exact⟨p1,p2,by omega,by omega,by rw [ε wr _ _ _ _ _ HG.out];exact x0,by rw [ε wr _ _ _ _ _ HG.out];exact x1,by rw [ε wr _ _ _ _ _ HG.out];exact x2,hC2,λq hq=>by
    obtain⟨x,h1,h2,h3,h4⟩:=hO2 q hq;exact⟨x,by omega,h2,h3,h4⟩,hs⟩
theorem Tv(a:Option Addr)(n c:Nat)(T:Nat->Td)(w:ο)(h:TL w a n T)(hn:n<=1048576) :
 XR μ 22 #[χ #[σ a n c]] w λe w'=>∃ g,e=ρ (χ #[σ (ς ⟨g,0,ν⟩) n n])/\(∃ G,w.heap.size<=G/\w.heap.size<=g/\TF G w' g n T)/\STb w' w.heap.size w'.heap.size g n T/\υ w.heap.size w w':=by
 have hR0:=D3.new w #[σ a n c] #[σ ν 0 0] #[σ ν 0 0];have hbW:υ w.heap.size w (((w.alloc (γ #[σ a n c] 30)).alloc (γ #[σ ν 0 0] 45)).alloc (γ #[σ ν 0 0] 45)):=A7 _ _ _ _;have hW:(((w.alloc (γ #[σ a n c] 30)).alloc (γ #[σ ν 0 0] 45)).alloc (γ #[σ ν 0 0] 45)).heap.size=w.heap.size+1+1+1:=by simp
 obtain⟨G,hG⟩:∃ G:Nat,G=w.heap.size+1+1+1:=⟨_,rfl⟩;go_enter Tryz.func22,Tryz.ntmps22
 go_wp2_with (go_at_call 49;refine(OG _ _ _ T _ (h.later hbW) hn).mono ?_;rintro e w1 ⟨g1,hg1,rfl,hL1,hS1,hb1⟩;have r1:D3 w1 w.heap.size #[σ a n c] #[σ ν 0 0] #[σ ν 0 0]:=hR0.later hb1;have B1:υ w.heap.size w w1:=AA hbW hb1;have hG1:G<=g1:=(by omega);have hGs:G<=(((w.alloc (γ #[σ a n c] 30)).alloc (γ #[σ ν 0 0] 45)).alloc (γ #[σ ν 0 0] 45)).heap.size:=(by omega);have m1:w1.cell? ⟨w.heap.size+1+1,0,ν⟩=ς (σ ν 0 0):=(ε _ _ 0 _ _ _ r1.x).trans rfl;have f1:w1.frozen? ⟨w.heap.size+1+1,0,ν⟩=false:=ζ _ _ 0 _ _ r1.x;have z1:w1.cell? ⟨w.heap.size+1,0,ν⟩=ς (σ ν 0 0):=(ε _ _ 0 _ _ _ r1.z).trans rfl;have zf1:w1.frozen? ⟨w.heap.size+1,0,ν⟩=false:=ζ _ _ 0 _ _ r1.z)
 have KV:∀ v0 v1,Kp G w1 ((w1.setCell ⟨w.heap.size+1+1,0,ν⟩ v0).setCell ⟨w.heap.size+1,0,ν⟩ v1):=λv0 v1=>(Kp.set (by omega)).trans (Kp.set (by omega));have NV:∀ v0 v1,KpG G w1 ((w1.setCell ⟨w.heap.size+1+1,0,ν⟩ v0).setCell ⟨w.heap.size+1,0,ν⟩ v1):=λv0 v1=>(KpG.set (by omega)).trans (KpG.set (by omega));have BV:∀ v0 v1,υ w.heap.size w ((w1.setCell ⟨w.heap.size+1+1,0,ν⟩ v0).setCell ⟨w.heap.size+1,0,ν⟩ v1):=λv0 v1=>Al (Al B1 (by omega)) (by omega);have RV:=λv0 v1=>π _ _ 0 _ _ v1 (AS (B:=w.heap.size+1+1) (B':=w.heap.size+1) (i:=0) (v:=v0) r1.z (by omega));refine XL (v:=χ #[σ (ς ⟨g1,0,ν⟩) n n]) (Xd Tryz.results22 _ _ (w.heap.size+1) 45 _ (0,0) _ rfl (RV _ _) Tryz.underlying45 rfl (by kernel_rfl)) rfl ⟨g1,rfl,?_,(hS1.kp ((NV _ _).r hGs)).hi (by omega) (by simp),BV _ _⟩;exact⟨_,by omega,by omega,hL1.kp (KV _ _) hG1 hGs⟩
def cp(d:St)(g1 g2 g3 g4 g5:Nat):Sa:=⟨ς ⟨g1,0,ν⟩,d.n2,ς ⟨g2,0,ν⟩,d.n3,ς ⟨g3,0,ν⟩,d.n5,ς ⟨g4,0,ν⟩,d.n6,ς ⟨g5,0,ν⟩,d.n7⟩
theorem Ld(n:Nat)(T:Nat->Td)(D:St):(Bg n T D).1.length<=1000000:=by
 by_cases hk:D.k=5
 ·
  by_cases h:(E0 n T D).2=0
  ·
   obtain⟨j,e1,-,ok,-⟩:=I2 hk h;unfold Bg;rw [if_neg (by simpa using hk),if_neg (by simpa using h),e1];simp only
   split
   · simp
   ·
    have h1:=Gr (C:=(T j).C) (n:=(T j).n) (R:=(T j).R) (W:=D.W) (n6:=D.n6) (m7:=D.m7) (O:=D.O) (n7:=D.n7) (k:=(T j).r);have h2:=(Cd ok).r1;simp only
    omega
  · unfold Bg;rw [if_neg (by simpa using hk),if_pos h];simp
 · unfold Bg;rw [if_pos hk];simp
theorem OD.mk{lo hi:Nat}{D:Nat->Prop}{w w':ο}{a:Option Addr}{A:List Rw}(h:OD D w a A)(k:Mk lo hi w w')(hD:∀ b,D b->b<lo∨hi<=b):OD D w' a A:=λj hj=>by
 obtain⟨b,off,i,c,e,hd,c0,hl⟩:=h j hj;exact⟨b,off,i,c,e,hd,(World.cell?_of_block (k.out _ (World.block_lt_of_cell? w _ c0) (hD _ hd))).trans c0,hl.step λa v hx hc=>(World.cell?_of_block (k.out _ (World.block_lt_of_cell? w _ hc) (hD _ hx))).trans hc⟩
theorem Apt.mk{lo hi lo':Nat}{w w':ο}{a:Option Addr}{A:List Rw}(h:Apt lo' w a A)(k:Mk lo hi w w')(hh:hi<=lo'):Apt lo' w' a A:=by
 rcases h with h | ⟨gg,cur,B,C,e1,e2,e3,e4,e5,e6,e7⟩
 · exact Xc h
 ·
  refine Xi ⟨gg,cur,B,C,e1,e2,k.row e3 (Xi (by omega)),e4,λi hi=>?_,e6,e7⟩;rcases e5 i hi with h | ⟨g,c,q1,q2,q3,q4,q5⟩
  · exact Xc h
  · exact Xi ⟨g,c,q1,q2,Nat.lt_of_lt_of_le q3 k.size,k.row q4 (Xi (by omega)),q5⟩
theorem I1{M:Nat->Nat}{b:Nat}:∀ {n:Nat},(∀ i,i<n->M i<=b)->sm M n<=n * b
 | 0,_=>by simp [sm]
 | n+1,h=>by
  have h1:=I1 (M:=M) (b:=b) (n:=n) (λi hi=>h i (by omega));have h2:=h n (by omega);rw [Dx,Nat.add_mul];omega
def tG(A:List Rw):Nat:=1+3 * sm (λi=>(A.getD i r0).1) A.length
theorem OD.wid{D:Nat->Prop}{w:ο}{a:Option Addr}{A:List Rw}(h:OD D w a A):∀ i,i<A.length->(A.getD i r0).1<=1048576:=λi hi=>by
 obtain⟨b,off,i',c,e,hd,c0,hl⟩:=h i hi;obtain⟨_,_,_,_,h2⟩:=hl.now;exact h2
def Md(w:ο)(a:Option Addr)(A:List Rw):Prop:=A.length=0∨∃ (gg:Nat) (cur:Array XU) (B C:Nat->Nat),a=ς ⟨gg,0,ν⟩/\w.heap[gg]?=ς (γ cur 60 (0,0))/\(∀ i,i<A.length->cur[i]?=ς (σ (ς ⟨B i,0,ν⟩) (A.getD i r0).1 (C i)))/\∀ i,i<A.length->M3 w 94 (ς ⟨B i,0,ν⟩) (A.getD i r0).1 (1+3 * sm (λi=>(A.getD i r0).1) i)
theorem Pd(lo:Nat)(a:Option Addr)(c:Nat)(A:List Rw)(w:ο)(h:Apt lo w a A)(hlo:lo<=w.heap.size)(hl:A.length<=1000000)(hm:∀ i,i<A.length->(A.getD i r0).1<=1048576) :
 XR μ 11 #[σ a A.length c,ι κ 1] w λe w'=>∃ K:Int,e=ρ (ι κ K)/\Hid (K=((tG A:Nat):Int))/\Md w' a A/\υ lo w w':=by
 have hs:=I1 (n:=A.length) hm;rcases h with h | ⟨gg,cur,B,C,rfl,e2,e3,e4,e5,e6,e7⟩
 · rw [h];refine(M5 a c 1 w).mono ?_;rintro e w' ⟨rfl,rfl⟩;exact⟨1,rfl,(show (1:Int)=_ by unfold tG;rw [h];rfl),Xc h,Xa _ _⟩
 ·
  refine(Pb lo w.heap.size gg A.length c 1 1 rfl cur (λi=>ς ⟨B i,0,ν⟩) C (λi=>(A.getD i r0).1) w e3 e4 e5 (λi hi e=>?_) (λi k hk hi=>Dj.of (by have:=e7 i k hk hi;omega)) (by omega) (by omega) (by omega)).mono ?_
  ·
   unfold bk at e;split at e
   · cases e
   · have:B i=gg:=XM e;exact e6 i hi this
  ·
   rintro e w' ⟨K,rfl,hK,h1,h2,h3⟩;refine⟨K,rfl,hK,Xi ⟨gg,cur,B,C,rfl,h1,e4,h2⟩,h3.os,h3.tape,h3.output,h3.size,λx hx=>h3.block x (by omega) (λi hi e=>?_)⟩;rcases e5 i hi with q | ⟨g,cc,q1,q2,-⟩
   · unfold bk at e;rw [if_pos q] at e;cases e
   ·
    have hg:B i=g:=by simpa using q1
    unfold bk at e;split at e
    · cases e
    · have:B i=x:=XM e;omega
theorem Py(a:Option Addr)(c:Nat)(A:List Rw)(w:ο)(h:Md w a A)(hl:A.length<=1000000)(hm:∀ i,i<A.length->(A.getD i r0).1<=1048576) :
 XR μ 12 #[σ a A.length c,ι κ 1] w λe w'=>∃ K:Int,e=ρ (ι κ K)/\Hid (K=((tG A:Nat):Int))/\υ w.heap.size w w':=by
 have hs:=I1 (n:=A.length) hm;rcases h with h | ⟨gg,cur,B,C,rfl,e3,e4,e5⟩
 · rw [h];refine(NT a c 1 w).mono ?_;rintro e w' ⟨rfl,rfl⟩;exact⟨1,rfl,(show (1:Int)=_ by unfold tG;rw [h];rfl),Xa _ _⟩
 · exact Pw gg A.length c 1 1 rfl cur (λi=>ς ⟨B i,0,ν⟩) C (λi=>(A.getD i r0).1) w e3 e4 e5 (by omega) (by omega) (by omega)
theorem Nv{B lo hi:Nat}{w a b:ο}(h:υ B w a)(k:Mk lo hi a b)(h1:B<=lo)(h2:B<=w.heap.size):υ B w b:=
 ⟨k.os.trans h.os,k.tape.trans h.tape,k.output.trans h.output,Xe h.size k.size,λx hx=>(k.out x (by have:=h.size;omega) (Xc (by omega))).trans (h.block x hx)⟩
def QA(up:Bool)(s:ByteArray)(n:Nat)(T:Nat->Td)(A:List Rw)(c1 c2:Int):Prop:=
 (up=false/\A=[]/\c1=40/\c2=0)∨(up=true/\(∀ d,¬Good s d)/\A=[]/\c1=41/\c2=0)∨(up=true/\∃ d,Good s d/\A=(Bg n T d).1/\c1=0/\c2=(Bg n T d).2)
theorem QA.there(up:Bool)(s:ByteArray)(n:Nat)(T:Nat->Td):∃ A c1 c2,QA up s n T A c1 c2:=by
 cases up with
 | false=>exact⟨_,_,_,.inl ⟨rfl,rfl,rfl,rfl⟩⟩
 | true=>
  by_cases h:∃ d,Good s d
  · obtain⟨d,hd⟩:=h;exact⟨_,_,_,.inr (.inr ⟨rfl,d,hd,rfl,rfl,rfl⟩)⟩
  · exact⟨_,_,_,.inr (.inl ⟨rfl,λd hd=>h ⟨d,hd⟩,rfl,rfl,rfl⟩)⟩
def QK(w:ο)(A:List Rw)(c1 c2:Int)(e:Ending)(w':ο):Prop:=∃ a' c',e=ρ (θ #[σ a' A.length c',ι κ c1,ι κ c2])/\OD (λb=>w.heap.size<=b) w' a' A/\υ w.heap.size w w'
def QJ(w:ο)(A:List Rw)(c1 c2:Int)(e:Ending)(w':ο):Prop:=∃ a' c',e=ρ (θ #[σ a' A.length c',ι κ c1,ι κ c2])/\OD (λb=>w.heap.size<=b) w' a' A/\Apt w.heap.size w' a' A/\υ w.heap.size w w'
theorem Cc{P:Program}{fn:Func}{t0 t1 t2:Tmp}(h:fn.results=#[.tmp t0,.tmp t1,.tmp t2])(tmps:Array XU)(w:ο):(results fn tmps).run P w=.ok (θ #[tmps.getD t0 undef,tmps.getD t1 undef,tmps.getD t2 undef]) w:=by
 simp [results,h]
theorem OD.none(D:Nat->Prop)(w:ο)(a:Option Addr):OD D w a []:=λk hk=>by simp at hk
theorem Rt(v0 v1 v2 v3 v4 v5 v6 v7 v8 v9 v10 v12 v13:XU)(g n c:Nat)(T:Nat->Td)(s:ByteArray)(w:ο)(_hT:TN w g n T)(_hn:n<=1048576)(_hs:s.size<=1048576) :
 XR μ 5 #[χ #[v0,v1,v2,v3,v4,v5,v6,v7,v8,v9,v10,σ (ς ⟨g,0,ν⟩) n c,v12,v13,β false],τ s] w (QK w [] 40 0):=by
 have hb0:=AE w (γ #[v0,v1,v2,v3,v4,v5,v6,v7,v8,v9,v10,σ (ς ⟨g,0,ν⟩) n c,v12,v13,β false] 48);have hX:=η w (γ #[v0,v1,v2,v3,v4,v5,v6,v7,v8,v9,v10,σ (ς ⟨g,0,ν⟩) n c,v12,v13,β false] 48);have x14:=(ε _ _ 14 _ _ _ hX).trans rfl;go_enter Tryz.func5,Tryz.ntmps5
 go_wp2;refine XL (Cc Tryz.results5 _ _) rfl ?_;exact⟨_,_,rfl,OD.none _ _ _,AA hb0 (AE _ _)⟩
theorem WZ(v0 v1 v2 v3 v4 v5 v6 v7 v8 v9 v10 v12 v13:XU)(g n c:Nat)(T:Nat->Td)(s:ByteArray)(w:ο)(_hT:TN w g n T)(_hn:n<=1048576)(hs:s.size<=1048576)(hno:∀ d,¬Good s d) :
 XR μ 5 #[χ #[v0,v1,v2,v3,v4,v5,v6,v7,v8,v9,v10,σ (ς ⟨g,0,ν⟩) n c,v12,v13,β true],τ s] w (QK w [] 41 0):=by
 have hb0:=AE w (γ #[v0,v1,v2,v3,v4,v5,v6,v7,v8,v9,v10,σ (ς ⟨g,0,ν⟩) n c,v12,v13,β true] 48);have hX:=η w (γ #[v0,v1,v2,v3,v4,v5,v6,v7,v8,v9,v10,σ (ς ⟨g,0,ν⟩) n c,v12,v13,β true] 48);have x14:=(ε _ _ 14 _ _ _ hX).trans rfl;go_enter Tryz.func5,Tryz.ntmps5
 go_upto_region 4 with (go_at_call 17;refine(JR s _ hs).mono ?_;rintro e w1 ⟨hb1,⟨rfl,-⟩ | ⟨d,p,hg,-⟩⟩;rotate_left;exact absurd hg (hno d))
 have hb2:=AA hb0 (AA hb1 (AE w1 (γ #[ι κ 0,τ ⟨#[]⟩,σ ν 0 0,σ ν 0 0,τ ⟨#[]⟩,σ ν 0 0,σ ν 0 0,σ ν 0 0] 64)));generalize w1.alloc (γ #[ι κ 0,τ ⟨#[]⟩,σ ν 0 0,σ ν 0 0,τ ⟨#[]⟩,σ ν 0 0,σ ν 0 0,σ ν 0 0] 64)=w2 at hb2 ⊢;go_wp2;refine XL (Cc Tryz.results5 _ _) rfl ?_;exact⟨_,_,rfl,OD.none _ _ _,AA hb2 (AE _ _)⟩
theorem UC(v0 v1 v2 v3 v4 v5 v6 v7 v8 v9 v10 v12 v13:XU)(g n c:Nat)(T:Nat->Td)(s:ByteArray)(w:ο)(hT:TN w g n T)(hn:n<=1048576)(hs:s.size<=1048576)(d:St)(hg:Good s d) :
 XR μ 5 #[χ #[v0,v1,v2,v3,v4,v5,v6,v7,v8,v9,v10,σ (ς ⟨g,0,ν⟩) n c,v12,v13,β true],τ s] w (QK w (Bg n T d).1 0 (Bg n T d).2):=by
 have hb0:=AE w (γ #[v0,v1,v2,v3,v4,v5,v6,v7,v8,v9,v10,σ (ς ⟨g,0,ν⟩) n c,v12,v13,β true] 48);have hX:=η w (γ #[v0,v1,v2,v3,v4,v5,v6,v7,v8,v9,v10,σ (ς ⟨g,0,ν⟩) n c,v12,v13,β true] 48);have x14:=(ε _ _ 14 _ _ _ hX).trans rfl;obtain⟨R,hR⟩:∃ R,Bg n T d=R:=⟨_,rfl⟩;have HR:Hid (Bg n T d=R):=hR;rw [hR];clear hR;go_enter Tryz.func5,Tryz.ntmps5
 go_upto_region 4 with (go_at_call 17;refine(JR s _ hs).mono ?_;rintro e w1 ⟨hb1,hcase⟩;rcases hcase with ⟨-,hno⟩ | ⟨d',p,hg',rfl,hS1,hR1⟩;(exact absurd hg (hno d));obtain rfl:=hg.one hg';obtain⟨k0,tb,n2,C,n3,V,col,n5,E,n6,W,n7,m7,O⟩:=d;obtain⟨a2,c2,a3,c3,a5,c5,a6,c6,a7,c7⟩:=p;dsimp only [Hv])
 have hb2:=AA hb1 (AE w1 (γ #[ι κ k0,τ tb,σ a2 n2 c2,σ a3 n3 c3,τ col,σ a5 n5 c5,σ a6 n6 c6,σ a7 n7 c7] 64));have hP:=η w1 (γ #[ι κ k0,τ tb,σ a2 n2 c2,σ a3 n3 c3,τ col,σ a5 n5 c5,σ a6 n6 c6,σ a7 n7 c7] 64);have hS2:=hS1.later (AE w1 (γ #[ι κ k0,τ tb,σ a2 n2 c2,σ a3 n3 c3,τ col,σ a5 n5 c5,σ a6 n6 c6,σ a7 n7 c7] 64));have hX2:=AC hX hb2;have hbW:=AA hb0 hb2;clear x14 hX hb0 hb1 hb2 hS1;generalize w1.heap.size=Q at hP ⊢;generalize w1.alloc (γ #[ι κ k0,τ tb,σ a2 n2 c2,σ a3 n3 c3,τ col,σ a5 n5 c5,σ a6 n6 c6,σ a7 n7 c7] 64)=w2 at hP hS2 hX2 hbW ⊢;have x11:=(ε _ _ 11 _ _ _ hX2).trans rfl;have y0:=(ε _ _ 0 _ _ _ hP).trans rfl;have y1:=(ε _ _ 1 _ _ _ hP).trans rfl;have y2:=(ε _ _ 2 _ _ _ hP).trans rfl;have y3:=(ε _ _ 3 _ _ _ hP).trans rfl;have y4:=(ε _ _ 4 _ _ _ hP).trans rfl;have y5:=(ε _ _ 5 _ _ _ hP).trans rfl;have y6:=(ε _ _ 6 _ _ _ hP).trans rfl;have y7:=(ε _ _ 7 _ _ _ hP).trans rfl;go_wp2_with (go_at_call 18;refine(OZ g n c T k0 tb a2 n2 c2 a3 n3 c3 col a5 n5 c5 a6 n6 c6 a7 n7 c7 C V E W m7 O _ rfl _ (hT.later hbW) hS2 hn hR1).mono ?_;rw [HR.out];rintro e w3 ⟨a',c',rfl,hO,hb3⟩)
 refine XL (Cc Tryz.results5 _ _) rfl ?_;exact⟨a',c',rfl,hO.wide (λb hb=>Xe hbW.size hb),AA hbW hb3⟩
theorem TM(v0 v1 v2 v3 v4 v5 v6 v7 v8 v9 v10 v12 v13:XU)(a:Option Addr)(n c:Nat)(T:Nat->Td)(s:ByteArray)(w:ο)(_hT:TL w a n T)(_hn:n<=1048576)(_hSp:SpT w)(_hs:s.size<=1048576) :
 XR μ 7 #[χ #[v0,v1,v2,v3,v4,v5,v6,v7,v8,v9,v10,σ a n c,v12,v13,β false],τ s] w (QJ w [] 40 0):=by
 have hb0:=AE w (γ #[v0,v1,v2,v3,v4,v5,v6,v7,v8,v9,v10,σ a n c,v12,v13,β false] 48);have hX:=η w (γ #[v0,v1,v2,v3,v4,v5,v6,v7,v8,v9,v10,σ a n c,v12,v13,β false] 48);have x14:=(ε _ _ 14 _ _ _ hX).trans rfl;go_enter Tryz.func7,Tryz.ntmps7
 go_wp2;refine XL (Cc Tryz.results7 _ _) rfl ?_;exact⟨_,_,rfl,OD.none _ _ _,.inl rfl,AA hb0 (AE _ _)⟩
theorem Wo(v0 v1 v2 v3 v4 v5 v6 v7 v8 v9 v10 v12 v13:XU)(a:Option Addr)(n c:Nat)(T:Nat->Td)(s:ByteArray)(w:ο)(_hT:TL w a n T)(_hn:n<=1048576)(hSp:SpT w)(hs:s.size<=1048576)(hno:∀ d,¬Good s d) :
 XR μ 7 #[χ #[v0,v1,v2,v3,v4,v5,v6,v7,v8,v9,v10,σ a n c,v12,v13,β true],τ s] w (QJ w [] 41 0):=by
 have hb0:=AE w (γ #[v0,v1,v2,v3,v4,v5,v6,v7,v8,v9,v10,σ a n c,v12,v13,β true] 48);have hX:=η w (γ #[v0,v1,v2,v3,v4,v5,v6,v7,v8,v9,v10,σ a n c,v12,v13,β true] 48);have x14:=(ε _ _ 14 _ _ _ hX).trans rfl;go_enter Tryz.func7,Tryz.ntmps7
 go_upto_region 4 with (go_at_call 24;refine(WA s _ hs (hSp.later hb0)).mono ?_;rintro e w1 ⟨hb1,⟨rfl,-⟩ | ⟨d,p,hg,-⟩⟩;rotate_left;exact absurd hg (hno d))
 have hb2:=AA hb0 (AA hb1 (AE w1 (γ #[ι κ 0,τ ⟨#[]⟩,σ ν 0 0,σ ν 0 0,τ ⟨#[]⟩,σ ν 0 0,σ ν 0 0,σ ν 0 0] 64)));generalize w1.alloc (γ #[ι κ 0,τ ⟨#[]⟩,σ ν 0 0,σ ν 0 0,τ ⟨#[]⟩,σ ν 0 0,σ ν 0 0,σ ν 0 0] 64)=w2 at hb2 ⊢;go_wp2;refine XL (Cc Tryz.results7 _ _) rfl ?_;exact⟨_,_,rfl,OD.none _ _ _,.inl rfl,AA hb2 (AE _ _)⟩
theorem Vm(v0 v1 v2 v3 v4 v5 v6 v7 v8 v9 v10 v12 v13:XU)(a:Option Addr)(n c:Nat)(T:Nat->Td)(s:ByteArray)(w:ο)(hT:TL w a n T)(hn:n<=1048576)(hSp:SpT w)(hs:s.size<=1048576)(d:St)(hg:Good s d) :
 XR μ 7 #[χ #[v0,v1,v2,v3,v4,v5,v6,v7,v8,v9,v10,σ a n c,v12,v13,β true],τ s] w (QJ w (Bg n T d).1 0 (Bg n T d).2):=by
 have hb0:=AE w (γ #[v0,v1,v2,v3,v4,v5,v6,v7,v8,v9,v10,σ a n c,v12,v13,β true] 48);have hX:=η w (γ #[v0,v1,v2,v3,v4,v5,v6,v7,v8,v9,v10,σ a n c,v12,v13,β true] 48);have x14:=(ε _ _ 14 _ _ _ hX).trans rfl;obtain⟨R,hR⟩:∃ R,Bg n T d=R:=⟨_,rfl⟩;have HR:Hid (Bg n T d=R):=hR;rw [hR];clear hR;go_enter Tryz.func7,Tryz.ntmps7
 go_upto_region 4 with (go_at_call 24;refine(WA s _ hs (hSp.later hb0)).mono ?_;rintro e w1 ⟨hb1,hcase⟩;rcases hcase with ⟨-,hno⟩ | ⟨d',p,hg',rfl,hS1,hR1⟩;(exact absurd hg (hno d));obtain rfl:=hg.one hg';obtain⟨k0,tb,n2,C,n3,V,col,n5,E,n6,W,n7,m7,O⟩:=d;obtain⟨a2,c2,a3,c3,a5,c5,a6,c6,a7,c7⟩:=p;dsimp only [Hv])
 have hb2:=AA hb1 (AE w1 (γ #[ι κ k0,τ tb,σ a2 n2 c2,σ a3 n3 c3,τ col,σ a5 n5 c5,σ a6 n6 c6,σ a7 n7 c7] 64));have hP:=η w1 (γ #[ι κ k0,τ tb,σ a2 n2 c2,σ a3 n3 c3,τ col,σ a5 n5 c5,σ a6 n6 c6,σ a7 n7 c7] 64);have hS2:=hS1.later (AE w1 (γ #[ι κ k0,τ tb,σ a2 n2 c2,σ a3 n3 c3,τ col,σ a5 n5 c5,σ a6 n6 c6,σ a7 n7 c7] 64));have hX2:=AC hX hb2;have hbW:=AA hb0 hb2;clear x14 hX hb0 hb1 hb2 hS1;generalize w1.heap.size=Q at hP ⊢;generalize w1.alloc (γ #[ι κ k0,τ tb,σ a2 n2 c2,σ a3 n3 c3,τ col,σ a5 n5 c5,σ a6 n6 c6,σ a7 n7 c7] 64)=w2 at hP hS2 hX2 hbW ⊢;have x11:=(ε _ _ 11 _ _ _ hX2).trans rfl;have y0:=(ε _ _ 0 _ _ _ hP).trans rfl;have y1:=(ε _ _ 1 _ _ _ hP).trans rfl;have y2:=(ε _ _ 2 _ _ _ hP).trans rfl;have y3:=(ε _ _ 3 _ _ _ hP).trans rfl;have y4:=(ε _ _ 4 _ _ _ hP).trans rfl;have y5:=(ε _ _ 5 _ _ _ hP).trans rfl;have y6:=(ε _ _ 6 _ _ _ hP).trans rfl;have y7:=(ε _ _ 7 _ _ _ hP).trans rfl;go_wp2_with (go_at_call 25;refine(Pj a n c T k0 tb a2 n2 c2 a3 n3 c3 col a5 n5 c5 a6 n6 c6 a7 n7 c7 C V E W m7 O _ rfl _ (hSp.later hbW) (hT.later hbW) hS2 hn).mono ?_;rw [HR.out];rintro e w3 ⟨a',c',rfl,hO,hAp,hb3⟩)
 refine XL (Cc Tryz.results7 _ _) rfl ?_;exact⟨a',c',rfl,hO.wide (λb hb=>Xe hbW.size hb),hAp.later (Xa _ _) hbW.size,AA hbW hb3⟩
theorem T8(v0 v1 v2 v3 v4 v5 v6 v7 v8 v9 v10 v12 v13:XU)(g n c:Nat)(T:Nat->Td)(up:Bool)(s:ByteArray)(w:ο)(hT:TN w g n T)(hn:n<=1048576)(hs:s.size<=1048576)(A:List Rw)(c1 c2:Int)(hA:QA up s n T A c1 c2):XR μ 5 #[χ #[v0,v1,v2,v3,v4,v5,v6,v7,v8,v9,v10,σ (ς ⟨g,0,ν⟩) n c,v12,v13,β up],τ s] w (QK w A c1 c2):=by
 rcases hA with ⟨rfl,rfl,rfl,rfl⟩ | ⟨rfl,hno,rfl,rfl,rfl⟩ | ⟨rfl,d,hg,rfl,rfl,rfl⟩
 · exact Rt v0 v1 v2 v3 v4 v5 v6 v7 v8 v9 v10 v12 v13 g n c T s w hT hn hs
 · exact WZ v0 v1 v2 v3 v4 v5 v6 v7 v8 v9 v10 v12 v13 g n c T s w hT hn hs hno
 · exact UC v0 v1 v2 v3 v4 v5 v6 v7 v8 v9 v10 v12 v13 g n c T s w hT hn hs d hg
theorem RW(v0 v1 v2 v3 v4 v5 v6 v7 v8 v9 v10 v12 v13:XU)(a:Option Addr)(n c:Nat)(T:Nat->Td)(up:Bool)(s:ByteArray)(w:ο)(hT:TL w a n T)(hn:n<=1048576)(hSp:SpT w)(hs:s.size<=1048576)(A:List Rw)(c1 c2:Int)(hA:QA up s n T A c1 c2):XR μ 7 #[χ #[v0,v1,v2,v3,v4,v5,v6,v7,v8,v9,v10,σ a n c,v12,v13,β up],τ s] w (QJ w A c1 c2):=by
 rcases hA with ⟨rfl,rfl,rfl,rfl⟩ | ⟨rfl,hno,rfl,rfl,rfl⟩ | ⟨rfl,d,hg,rfl,rfl,rfl⟩
 · exact TM v0 v1 v2 v3 v4 v5 v6 v7 v8 v9 v10 v12 v13 a n c T s w hT hn hSp hs
 · exact Wo v0 v1 v2 v3 v4 v5 v6 v7 v8 v9 v10 v12 v13 a n c T s w hT hn hSp hs hno
 · exact Vm v0 v1 v2 v3 v4 v5 v6 v7 v8 v9 v10 v12 v13 a n c T s w hT hn hSp hs d hg
