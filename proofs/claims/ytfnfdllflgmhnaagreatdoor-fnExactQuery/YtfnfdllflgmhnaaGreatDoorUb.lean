import Derived.Test.YtfnfdllflgmhnaaGreatDoorRc
import Derived.Test.YtfnfdllflgmhnaaGreatDoorNl
import Derived.Laws.Cover1
open ByteArray renaming empty → XN
open Go renaming Calls → XR, World → ο, Value → XU, heap_alloc_new → η, heap_setCell_same → π, cell_of_row → ε, bodyPost_ret → XL, frozen_of_row → ζ, results_cell_row → Xd
open Go.Ending renaming returned → ρ
open Go.IntKind renaming i64 → κ
open Go.Obj renaming cells → γ
open Go.Op renaming bytesLess → Xh
open Go.Proofs.Tryz renaming prog → μ
open Go.RowKit renaming Below → υ, intOf → XX
open Go.RowKit.Below renaming refl → Xa
open Go.Value renaming bool → β, int → ι, slice → σ, agg → χ, string → τ
open Nat renaming zero_add → XT, add_zero → Xm, le_refl → XK
open Option renaming none → ν, some → ς
namespace Go.Proofs.YtfnfdllflgmhnaaGreatDoor
open Go.RowKit Go.Maps Go.WideMaps
set_option maxRecDepth 20000
set_option maxHeartbeats 4000000
theorem Rm(a:Option Addr)(n c:Nat)(m:Nat->Nat)(O:Nat->Nat->Itm)(w:ο)(h:OX w a n m O)(L:Int)(h0:0<=L)(h1:L<=1048576) :
 XR μ 125 #[σ a n c,ι κ L] w λe w'=>υ w.heap.size w w'/\∃ r:Int,e=ρ (ι κ r)/\r<=1048576/\(0<=r->n<=1048576/\∀ k,k<n->m k<=1048576/\∀ j,j<m k->(O k j).s.size<=1048576):=by
 have hn:=h.1;have hb0:=Xa w.heap.size w;by_cases hs:(n:Int)<=L
 ·
  go_enter Tryz.func125,Tryz.ntmps125
  go_wp2;go_loopw [1,5] (λl i wr=>∃ k:Nat,∃ x:Int,k<=n/\i=ι κ k/\l=ι κ x/\0<=x/\x<=1048576/\(∀ q,q<k->m q<=1048576/\∀ j,j<m q->(O q j).s.size<=1048576)/\υ w.heap.size w wr) (λ_ i _=>n - (XX i).toNat)
  case atStart=>exact⟨0,_,by omega,rfl,rfl,by omega,by omega,λj hj=>by omega,hb0⟩
  case round=>
   obtain⟨k,x,hk,rfl,rfl,hx0,hx1,hall,hb⟩:=hrel;by_cases hlt:k<n
   ·
    obtain⟨b,off,i,c',rfl,c0,hi⟩:=(h.later hb).2 k hlt;go_wp2_with (go_at_call 170;refine(Rj i _ c' _ _ hi _ hx0 hx1).mono ?_;rintro e w1 ⟨hb1,r,rfl,hr1,hr2⟩;replace hb1:=AA hb hb1;by_cases hr:(0:Int)<=r)
    ·
     go_roundw
     case rel=>exact⟨k+1,r,by omega,by go_num,rfl,hr,hr1,λj hj=>by
      by_cases e:j=k
      · subst e;exact hr2 hr
      · exact hall j (by omega),hb1⟩
     case measure=>simp [XX];omega
    ·
     go_ret
     exact⟨hb1,-1,rfl,by omega,λhh=>by omega⟩
   ·
    obtain rfl:k=n:=by omega
    go_wp2;go_ret
    exact⟨hb,_,rfl,hx1,λ_=>⟨by omega,hall⟩⟩
 ·
  go_enter Tryz.func125,Tryz.ntmps125
  go_wp2;go_ret
  exact⟨hb0,-1,rfl,by omega,λhh=>by omega⟩
theorem Tryz.infoRow:(Tryz.prog.info? 60).map (λi=>(i.zero,i.size,i.bytes))=ς (ς (σ ν 0 0),1,24):=by kernel_rfl
theorem Hi(a a':Option Addr)(n c c':Nat)(m:Nat->Nat)(O:Nat->Nat->Itm)(w:ο)(h:OL w a n m O)(h':OL w a' n m O)(hn:n<=1048576) :
 XR μ 8 #[σ a n c,σ a' n c'] w λe w'=>e=ρ (β true)/\υ w.heap.size w w':=by
 have hb0:=Xa w.heap.size w;go_enter Tryz.func8,Tryz.ntmps8
 go_wp2;go_loopw [5] (λi wr=>∃ k:Nat,k<=n/\i=ι κ k/\υ w.heap.size w wr) (λi _=>n - (XX i).toNat)
 case atStart=>exact⟨0,by omega,rfl,hb0⟩
 case round=>
  obtain⟨k,hk,rfl,hb⟩:=hrel;by_cases hlt:k<n
  ·
   have hkk:(k:Int)<n:=by omega
   obtain⟨b,off,i,d,rfl,c0,hi,hm⟩:=h.later hb k hlt;obtain⟨b',off',i',d',rfl,c0',hi',-⟩:=h'.later hb k hlt;go_wp2;go_region_with (go_at_call 26;refine(TY i i' _ d d' _ _ hi.drew hi'.drew hm).mono ?_;rintro e w1 ⟨rfl,hb1⟩)
   all_goals
    go_wp2;go_roundw
    case rel=>exact⟨k+1,by omega,by go_num,AA hb (Aa hb1)⟩
    case measure=>simp [XX];omega
  ·
   obtain rfl:k=n:=by omega
   go_wp2;go_ret
   exact⟨rfl,hb⟩
structure Td where
 s:ByteArray
 n:Nat
 C:Nat->Clm
 r:Nat
 m:Nat->Nat
 R:Nat->Nat->Itm
structure Sm3(d:Td):Prop where
 s:d.s.size<=1048576
 co:d.n<=1048576/\∀ k,k<d.n->(d.C k).s.size<=1048576
 ro:d.r<=1048576/\∀ k,k<d.r->d.m k<=1048576/\∀ j,j<d.m k->(d.R k j).s.size<=1048576
def TX(w:ο)(a:Option Addr)(n:Nat)(T:Nat->Td):Prop:=
 n<=9223372036854775807/\∀ k,k<n->∃ b off ac cc ar cr,a=ς ⟨b,off,ν⟩/\w.cell? ⟨b,off+k * 3,ν⟩=ς (τ (T k).s)/\w.cell? ⟨b,off+k * 3+1,ν⟩=ς (σ ac (T k).n cc)/\w.cell? ⟨b,off+k * 3+2,ν⟩=ς (σ ar (T k).r cr)/\(T k).s.size<=9223372036854775807/\CX w ac (T k).n (T k).C/\OX w ar (T k).r (T k).m (T k).R
theorem TX.later{w w':ο}{a:Option Addr}{n:Nat}{T:Nat->Td}(h:TX w a n T)(hb:υ w.heap.size w w'):TX w' a n T:=⟨h.1,λk hk=>by
 obtain⟨b,off,ac,cc,ar,cr,e,h0,h1,h2,hs,hC,hO⟩:=h.2 k hk;exact⟨b,off,ac,cc,ar,cr,e,AB hb h0,AB hb h1,AB hb h2,hs,hC.later hb,hO.later hb⟩⟩
def TL(w:ο)(a:Option Addr)(n:Nat)(T:Nat->Td):Prop:=
 ∀ k,k<n->∃ b off ac cc ar cr,a=ς ⟨b,off,ν⟩/\w.cell? ⟨b,off+k * 3,ν⟩=ς (τ (T k).s)/\w.cell? ⟨b,off+k * 3+1,ν⟩=ς (σ ac (T k).n cc)/\w.cell? ⟨b,off+k * 3+2,ν⟩=ς (σ ar (T k).r cr)/\CL w ac (T k).n (T k).C/\OL w ar (T k).r (T k).m (T k).R/\Sm3 (T k)
theorem TL.later{w w':ο}{a:Option Addr}{n:Nat}{T:Nat->Td}(h:TL w a n T)(hb:υ w.heap.size w w'):TL w' a n T:=λk hk=>by
 obtain⟨b,off,ac,cc,ar,cr,e,h0,h1,h2,hC,hO,hs⟩:=h k hk;exact⟨b,off,ac,cc,ar,cr,e,AB hb h0,AB hb h1,AB hb h2,hC.later hb,hO.later hb,hs⟩
theorem TX.small{w:ο}{a:Option Addr}{n:Nat}{T:Nat->Td}(h:TX w a n T)(hs:∀ k,k<n->Sm3 (T k)):TL w a n T:=λk hk=>by
 obtain⟨b,off,ac,cc,ar,cr,e,h0,h1,h2,-,hC,hO⟩:=h.2 k hk;exact⟨b,off,ac,cc,ar,cr,e,h0,h1,h2,hC.small (hs k hk).co.2,hO.small (hs k hk).ro.2,hs k hk⟩
theorem Ty(s:ByteArray)(n:Nat)(C:Nat->Clm)(r:Nat)(m:Nat->Nat)(R:Nat->Nat->Itm)(ac:Option Addr)(cc:Nat)(ar:Option Addr)(cr:Nat)(w:ο)(hs:s.size<=9223372036854775807)(hC:CX w ac n C)(hR:OX w ar r m R)(L:Int)(h0:0<=L)(h1:L<=1048576) :
 XR μ 65 #[χ #[τ s,σ ac n cc,σ ar r cr],ι κ L] w λe w'=>υ w.heap.size w w'/\∃ x:Int,e=ρ (ι κ x)/\x<=1048576/\(0<=x->Sm3 ⟨s,n,C,r,m,R⟩):=by
 have hb0:=AE w (γ #[τ s,σ ac n cc,σ ar r cr] 132);obtain⟨g0,g1,g2⟩:=DQ (Xa (w.alloc (γ #[τ s,σ ac n cc,σ ar r cr] 132)).heap.size (w.alloc (γ #[τ s,σ ac n cc,σ ar r cr] 132)));have HC:=hC.later hb0;have HR:=hR.later hb0;by_cases ht:(0:Int)<=L - s.size
 ·
  go_enter Tryz.func65,Tryz.ntmps65
  go_wp2_with (first | (go_at_call 124;refine(Ro _ _ _ _ _ HC _ (by omega) (by omega)).mono ?_;rintro e w1 ⟨hb1,r1,rfl,hr1,hs1⟩;have HR1:=HR.later hb1;have k2:=AB hb1 g2;replace hb1:=AA hb0 hb1;by_cases hp1:(0:Int)<=r1) | (go_at_call 125;refine(Rm _ _ _ _ _ _ HR1 _ hp1 hr1).mono ?_;rintro e w2 ⟨hb2,r2,rfl,hr2,hs2⟩;replace hb2:=AA hb1 hb2;by_cases hp2:(0:Int)<=r2))
  all_goals go_ret
  · exact⟨hb2,r2,rfl,hr2,λ_=>⟨by show s.size<=_;omega,hs1 hp1,hs2 hp2⟩⟩
  · exact⟨hb2,-1,rfl,by omega,λhh=>by omega⟩
  · exact⟨hb1,-1,rfl,by omega,λhh=>by omega⟩
 ·
  go_enter Tryz.func65,Tryz.ntmps65
  go_wp2;go_ret
  exact⟨hb0,-1,rfl,by omega,λhh=>by omega⟩
theorem Rl(a:Option Addr)(n c:Nat)(T:Nat->Td)(w:ο)(h:TX w a n T)(L:Int)(h0:0<=L)(h1:L<=1048576) :
 XR μ 39 #[σ a n c,ι κ L] w λe w'=>υ w.heap.size w w'/\∃ r:Int,e=ρ (ι κ r)/\r<=1048576/\(0<=r->n<=1048576/\∀ k,k<n->Sm3 (T k)):=by
 have hn:=h.1;have hb0:=Xa w.heap.size w;by_cases hs:(n:Int)<=L
 ·
  go_enter Tryz.func39,Tryz.ntmps39
  go_wp2;go_loopw [1,5] (λl i wr=>∃ k:Nat,∃ x:Int,k<=n/\i=ι κ k/\l=ι κ x/\0<=x/\x<=1048576/\(∀ q,q<k->Sm3 (T q))/\υ w.heap.size w wr) (λ_ i _=>n - (XX i).toNat)
  case atStart=>exact⟨0,_,by omega,rfl,rfl,by omega,by omega,λj hj=>by omega,hb0⟩
  case round=>
   obtain⟨k,x,hk,rfl,rfl,hx0,hx1,hall,hb⟩:=hrel;by_cases hlt:k<n
   ·
    obtain⟨b,off,ac,cc,ar,cr,rfl,c0,c1,c2,hsz,hC,hO⟩:=(h.later hb).2 k hlt;go_wp2_with (go_at_call 65;refine(Ty _ _ _ _ _ _ ac cc ar cr _ hsz hC hO _ hx0 hx1).mono ?_;rintro e w1 ⟨hb1,r,rfl,hr1,hr2⟩;replace hb1:=AA hb hb1;by_cases hr:(0:Int)<=r)
    ·
     go_roundw
     case rel=>exact⟨k+1,r,by omega,by go_num,rfl,hr,hr1,λj hj=>by
      by_cases e:j=k
      · subst e;exact hr2 hr
      · exact hall j (by omega),hb1⟩
     case measure=>simp [XX];omega
    ·
     go_ret
     exact⟨hb1,-1,rfl,by omega,λhh=>by omega⟩
   ·
    obtain rfl:k=n:=by omega
    go_wp2;go_ret
    exact⟨hb,_,rfl,hx1,λ_=>⟨by omega,hall⟩⟩
 ·
  go_enter Tryz.func39,Tryz.ntmps39
  go_wp2;go_ret
  exact⟨hb0,-1,rfl,by omega,λhh=>by omega⟩
structure Q3(V:ο)(B:Nat)(A Z X:Array XU):Prop where
 a:V.heap[B]?=ς (γ A 132 (0,0))
 z:V.heap[B+1]?=ς (γ Z 100 (0,0))
 x:V.heap[B+1+1]?=ς (γ X 100 (0,0))
theorem Q3.later{V V':ο}{B:Nat}{A Z X:Array XU}(h:Q3 V B A Z X)(hb:υ V.heap.size V V'):Q3 V' B A Z X:=⟨AC h.a hb,AC h.z hb,AC h.x hb⟩
theorem Q3.set{V:ο}{B i:Nat}{A Z X:Array XU}{v:XU}(h:Q3 V B A Z X):Q3 (V.setCell ⟨B+1+1,i,ν⟩ v) B A Z (X.setIfInBounds i v):=⟨AS h.a (by omega),AS h.z (by omega),π _ _ _ _ _ _ h.x⟩
theorem Q3.new(w:ο)(A Z X:Array XU):Q3 (((w.alloc (γ A 132)).alloc (γ Z 100)).alloc (γ X 100)) w.heap.size A Z X:=by
 have e1:(w.alloc (γ A 132)).heap.size=w.heap.size+1:=by simp
 have e2:((w.alloc (γ A 132)).alloc (γ Z 100)).heap.size=w.heap.size+1+1:=by simp
 have h1:=η w (γ A 132);have h2:=η (w.alloc (γ A 132)) (γ Z 100);have h3:=η ((w.alloc (γ A 132)).alloc (γ Z 100)) (γ X 100);rw [e1] at h2;rw [e2] at h3;exact⟨AC (AC h1 (AE _ _)) (AE _ _),AC h2 (AE _ _),h3⟩
theorem Tryz.infoTab:(Tryz.prog.info? 100).map (λi=>(i.zero,i.size,i.bytes))=ς (ς (χ #[τ XN,σ ν 0 0,σ ν 0 0]),3,64):=by kernel_rfl
theorem Kp.mono{G H:Nat}{w w':ο}(h:Kp G w w')(hG:G<=H):Kp H w w':=λa v ha hc=>h a v (by omega) hc
def TF(G:Nat)(w:ο)(g n:Nat)(T:Nat->Td):Prop:=
 ∀ k,k<n->∃ g1 g2,G<=g1/\G<=g2/\w.cell? ⟨g,k * 3,ν⟩=ς (τ (T k).s)/\w.cell? ⟨g,k * 3+1,ν⟩=ς (σ (ς ⟨g1,0,ν⟩) (T k).n (T k).n)/\w.cell? ⟨g,k * 3+2,ν⟩=ς (σ (ς ⟨g2,0,ν⟩) (T k).r (T k).r)/\CL w (ς ⟨g1,0,ν⟩) (T k).n (T k).C/\OF G w g2 (T k).r (T k).m (T k).R/\Sm3 (T k)
theorem TF.kp{G H g n:Nat}{w w':ο}{T:Nat->Td}(h:TF G w g n T)(k:Kp H w w')(hg:H<=g)(hG:H<=G):TF G w' g n T:=λj hj=>by
 obtain⟨g1,g2,h1,h2,c0,c1,c2,hC,hO,hs⟩:=h j hj;exact⟨g1,g2,h1,h2,k _ _ hg c0,k _ _ hg c1,k _ _ hg c2,hC.kp k (by omega),hO.kp k (by omega) hG,hs⟩
theorem TF.tl{G g n:Nat}{w:ο}{T:Nat->Td}(h:TF G w g n T):TL w (ς ⟨g,0,ν⟩) n T:=λj hj=>by
 obtain⟨g1,g2,h1,h2,c0,c1,c2,hC,hO,hs⟩:=h j hj;exact⟨g,0,_,_,_,_,rfl,by rw [XT];exact c0,by rw [XT];exact c1,by rw [XT];exact c2,hC,hO.ol,hs⟩
theorem WL(s:ByteArray)(n:Nat)(C:Nat->Clm)(r:Nat)(m:Nat->Nat)(R:Nat->Nat->Itm)(ac:Option Addr)(cc:Nat)(ar:Option Addr)(cr:Nat)(ac':Option Addr)(cc':Nat)(ar':Option Addr)(cr':Nat)(w:ο)(hC:CL w ac n C)(hR:OL w ar r m R)(hC':CL w ac' n C)(hR':OL w ar' r m R)(hn:n<=1048576)(hr:r<=1048576) :
 XR μ 122 #[χ #[τ s,σ ac n cc,σ ar r cr],χ #[τ s,σ ac' n cc',σ ar' r cr']] w λe w'=>e=ρ (β true)/\υ w.heap.size w w':=by
 have hss:=BH s;have hb0:=AA (AE w (γ #[τ s,σ ac n cc,σ ar r cr] 100)) (AE _ (γ #[τ s,σ ac' n cc',σ ar' r cr'] 100));have hC0:=hC.later hb0;have hC0':=hC'.later hb0;have hR0:=hR.later hb0;have hR0':=hR'.later hb0;have es:(w.alloc (γ #[τ s,σ ac n cc,σ ar r cr] 100)).heap.size=w.heap.size+1:=by simp
 have g2:=AB (AE _ (γ #[τ s,σ ac' n cc',σ ar' r cr'] 100)) ((ε _ _ 2 _ _ _ (η w (γ #[τ s,σ ac n cc,σ ar r cr] 100))).trans (show _=ς (σ ar r cr) from rfl))
 have k2:=(ε _ _ 2 _ _ _ (η (w.alloc (γ #[τ s,σ ac n cc,σ ar r cr] 100)) (γ #[τ s,σ ac' n cc',σ ar' r cr'] 100))).trans (show _=ς (σ ar' r cr') from rfl)
 rw [es] at k2;go_enter Tryz.func122,Tryz.ntmps122
 go_wp2_with (first | (go_at_call 168;refine(Te _ _ _ _ _ _ _ hC0 hC0' hn).mono ?_;rintro e w1 ⟨rfl,hb1⟩;have g2':=AB hb1 g2;have k2':=AB hb1 k2;have hR1:=hR0.later hb1;have hR1':=hR0'.later hb1;replace hb1:=AA hb0 hb1) | (go_at_call 8;refine(Hi _ _ _ _ _ _ _ _ hR1 hR1' hr).mono ?_;rintro e w2 ⟨rfl,hb2⟩;replace hb2:=AA hb1 hb2))
 go_ret
 exact⟨rfl,hb2⟩
theorem Ta(a a':Option Addr)(n c c':Nat)(T:Nat->Td)(w:ο)(h:TL w a n T)(h':TL w a' n T)(hn:n<=1048576) :
 XR μ 60 #[σ a n c,σ a' n c'] w λe w'=>e=ρ (β true)/\υ w.heap.size w w':=by
 have hb0:=Xa w.heap.size w;go_enter Tryz.func60,Tryz.ntmps60
 go_wp2;go_loopw [5] (λi wr=>∃ k:Nat,k<=n/\i=ι κ k/\υ w.heap.size w wr) (λi _=>n - (XX i).toNat)
 case atStart=>exact⟨0,by omega,rfl,hb0⟩
 case round=>
  obtain⟨k,hk,rfl,hb⟩:=hrel;by_cases hlt:k<n
  ·
   have hkk:(k:Int)<n:=by omega
   obtain⟨b,off,ac,cc,ar,cr,rfl,c0,c1,c2,hC,hO,hs⟩:=h.later hb k hlt;obtain⟨b',off',ac',cc',ar',cr',rfl,d0,d1,d2,hC',hO',-⟩:=h'.later hb k hlt;go_wp2;go_region_with (go_at_call 122;refine(WL _ _ _ _ _ _ ac cc ar cr ac' cc' ar' cr' wr.drew hC hO hC' hO' hs.co.1 hs.ro.1).mono ?_;rintro e w1 ⟨rfl,hb1⟩)
   all_goals
    go_wp2;go_roundw
    case rel=>exact⟨k+1,by omega,by go_num,AA hb (Aa hb1)⟩
    case measure=>simp [XX];omega
  ·
   obtain rfl:k=n:=by omega
   go_wp2;go_ret
   exact⟨rfl,hb⟩
theorem Nh(a a':Option Addr)(n c c':Nat)(T:Nat->Td)(w:ο)(h:TL w a n T)(h':TL w a' n T)(hn:n<=1048576) :
 XR μ 30 #[χ #[σ a n c],χ #[σ a' n c']] w λe w'=>e=ρ (β true)/\υ w.heap.size w w':=by
 have hb0:=AA (AE w (γ #[σ a n c] 45)) (AE _ (γ #[σ a' n c'] 45));have h0:=h.later hb0;have h0':=h'.later hb0;go_enter Tryz.func30,Tryz.ntmps30
 go_wp2_with (go_at_call 60;refine(Ta _ _ _ _ _ _ _ h0 h0' hn).mono ?_;rintro e w1 ⟨rfl,hb1⟩;replace hb1:=AA hb0 hb1)
 go_ret
 exact⟨rfl,hb1⟩
structure D3(V:ο)(B:Nat)(A Z X:Array XU):Prop where
 a:V.heap[B]?=ς (γ A 30 (0,0))
 z:V.heap[B+1]?=ς (γ Z 45 (0,0))
 x:V.heap[B+1+1]?=ς (γ X 45 (0,0))
theorem D3.later{V V':ο}{B:Nat}{A Z X:Array XU}(h:D3 V B A Z X)(hb:υ V.heap.size V V'):D3 V' B A Z X:=⟨AC h.a hb,AC h.z hb,AC h.x hb⟩
theorem D3.set{V:ο}{B i:Nat}{A Z X:Array XU}{v:XU}(h:D3 V B A Z X):D3 (V.setCell ⟨B+1+1,i,ν⟩ v) B A Z (X.setIfInBounds i v):=⟨AS h.a (by omega),AS h.z (by omega),π _ _ _ _ _ _ h.x⟩
theorem D3.new(w:ο)(A Z X:Array XU):D3 (((w.alloc (γ A 30)).alloc (γ Z 45)).alloc (γ X 45)) w.heap.size A Z X:=by
 have e1:(w.alloc (γ A 30)).heap.size=w.heap.size+1:=by simp
 have e2:((w.alloc (γ A 30)).alloc (γ Z 45)).heap.size=w.heap.size+1+1:=by simp
 have h1:=η w (γ A 30);have h2:=η (w.alloc (γ A 30)) (γ Z 45);have h3:=η ((w.alloc (γ A 30)).alloc (γ Z 45)) (γ X 45);rw [e1] at h2;rw [e2] at h3;exact⟨AC (AC h1 (AE _ _)) (AE _ _),AC h2 (AE _ _),h3⟩
def TC(w:ο)(g n:Nat)(T:Nat->Td):Prop:=
 ∀ k,k<n->∃ g1 ar cr,w.cell? ⟨g,k * 3,ν⟩=ς (τ (T k).s)/\w.cell? ⟨g,k * 3+1,ν⟩=ς (σ (ς ⟨g1,0,ν⟩) (T k).n (T k).n)/\w.cell? ⟨g,k * 3+2,ν⟩=ς (σ ar (T k).r cr)/\CL w (ς ⟨g1,0,ν⟩) (T k).n (T k).C/\OL w ar (T k).r (T k).m (T k).R/\Sm3 (T k)
theorem TC.later{w w':ο}{g n:Nat}{T:Nat->Td}(h:TC w g n T)(hb:υ w.heap.size w w'):TC w' g n T:=λk hk=>by
 obtain⟨g1,ar,cr,h0,h1,h2,hC,hO,hs⟩:=h k hk;exact⟨g1,ar,cr,AB hb h0,AB hb h1,AB hb h2,hC.later hb,hO.later hb,hs⟩
theorem TC.tl{w:ο}{g n:Nat}{T:Nat->Td}(h:TC w g n T):TL w (ς ⟨g,0,ν⟩) n T:=λj hj=>by
 obtain⟨g1,ar,cr,c0,c1,c2,hC,hO,hs⟩:=h j hj;exact⟨g,0,_,_,_,_,rfl,by rw [XT];exact c0,by rw [XT];exact c1,by rw [XT];exact c2,hC,hO,hs⟩
theorem TF.tc{G g n:Nat}{w:ο}{T:Nat->Td}(h:TF G w g n T):TC w g n T:=λj hj=>by
 obtain⟨g1,g2,h1,h2,c0,c1,c2,hC,hO,hs⟩:=h j hj;exact⟨g1,_,_,c0,c1,c2,hC,hO.ol,hs⟩
def BU(o m:Int)(s:ByteArray)(k:Int):Bool:=o == k && (if k == 1 then decide (s.size=0) else m == 0 && BD s)
theorem Lg(o m:Int)(s:ByteArray)(k:Int)(w:ο)(hs:s.size<=1048576):XR μ 179 #[χ #[ι κ o,ι κ m,τ s],ι κ k] w λe w'=>e=ρ (β (BU o m s k))/\υ w.heap.size w w':=by
 have hb0:=AE w (γ #[ι κ o,ι κ m,τ s] 94);have hE:=Ib s;rcases h1:(o == k)
 ·
  go_enter Tryz.func179,Tryz.ntmps179
  go_wp2;go_ret
  exact⟨AM (by simp [BU,h1]),hb0⟩
 rcases h2:(k == 1)
 ·
  rcases h3:(m == 0)
  ·
   go_enter Tryz.func179,Tryz.ntmps179
   go_wp2;go_ret
   exact⟨AM (by simp [BU,h1,h2,h3]),hb0⟩
  ·
   go_enter Tryz.func179,Tryz.ntmps179
   go_wp2_with (go_at_call 177;refine(JX s _ hs).mono ?_;rintro e w1 ⟨rfl,hb1⟩)
   go_ret
   exact⟨AM (by simp [BU,h1,h2,h3]),hb0⟩
 ·
  go_enter Tryz.func179,Tryz.ntmps179
  go_wp2;go_ret
  exact⟨AM (by simp [BU,h1,h2]),hb0⟩
def Cv(m:Int)(s:ByteArray)(m':Int)(s':ByteArray):Bool:=decide (m<m') || Xh s.toList s'.toList
theorem IG(o m:Int)(s:ByteArray)(o' m':Int)(s':ByteArray)(w:ο):XR μ 135 #[χ #[ι κ o,ι κ m,τ s],χ #[ι κ o',ι κ m',τ s']] w λe w'=>∃ r:Int,e=ρ (ι κ r)/\(0<=r↔Cv m s m' s'=false)/\υ w.heap.size w w':=by
 have hb0:=AA (AE w (γ #[ι κ o,ι κ m,τ s] 94)) (AE _ (γ #[ι κ o',ι κ m',τ s'] 94));by_cases h1:m<m'
 ·
  have HB:Hid (Cv m s m' s'=true):=by simp [Hid,Cv,h1]
  go_enter Tryz.func135,Tryz.ntmps135
  go_wp2;all_goals go_ret
  all_goals exact⟨_,rfl,by rw [HB.out];simp,hb0⟩
 rcases h2:Xh s.toList s'.toList
 ·
  have HB:Hid (Cv m s m' s'=false):=by simp [Hid,Cv,h2];omega
  by_cases h3:m'<m
  ·
   go_enter Tryz.func135,Tryz.ntmps135
   go_wp2;all_goals go_ret
   all_goals exact⟨_,rfl,by rw [HB.out];simp,hb0⟩
  ·
   rcases h4:(s.toList == s'.toList)
   ·
    go_enter Tryz.func135,Tryz.ntmps135
    go_wp2;all_goals go_ret
    all_goals exact⟨_,rfl,by rw [HB.out];simp,hb0⟩
   ·
    go_enter Tryz.func135,Tryz.ntmps135
    go_wp2;all_goals go_ret
    all_goals exact⟨_,rfl,by rw [HB.out];simp,hb0⟩
 ·
  have HB:Hid (Cv m s m' s'=true):=by simp [Hid,Cv,h2]
  go_enter Tryz.func135,Tryz.ntmps135
  go_wp2;all_goals go_ret
  all_goals exact⟨_,rfl,by rw [HB.out];simp,hb0⟩
def Ah(C:Nat->Clm)(s:ByteArray):Nat->Bool
 | 0=>false
 | k+1=>Ah C s k || (C k).s.toList == s.toList
theorem Ii{C:Nat->Clm}{s:ByteArray}{k:Nat}(h:Ah C s k=true):∀ n,k<=n->Ah C s n=true:=by
 intro n hn;induction n with
 | zero=>
  obtain rfl:k=0:=by omega
  exact h
 | succ n ih=>
  by_cases e:k=n+1
  · subst e;exact h
  · rw [Ah,ih (by omega)];rfl
theorem R1(a:Option Addr)(n c:Nat)(C:Nat->Clm)(s:ByteArray)(w:ο)(h:CL w a n C)(hn:n<=1048576):XR μ 81 #[σ a n c,τ s] w λe w'=>∃ r:Int,e=ρ (ι κ r)/\(0<=r↔Ah C s n=true)/\υ w.heap.size w w':=by
 have hb0:=Xa w.heap.size w;go_enter Tryz.func81,Tryz.ntmps81
 go_wp2;go_loopw [5,6,9] (λ_ _ i wr=>∃ k:Nat,k<=n/\i=ι κ k/\Ah C s k=false/\υ w.heap.size w wr) (λ_ _ i _=>n - (XX i).toNat)
 case atStart=>exact⟨0,by omega,rfl,rfl,hb0⟩
 case round=>
  obtain⟨k,hk,rfl,hno,hb⟩:=hrel;by_cases hlt:k<n
  ·
   obtain⟨b,off,rfl,d0,d1,hs⟩:=h.later hb k hlt;have HN:Hid (Ah C s (k+1)=(Ah C s k || (C k).s.toList == s.toList)):=rfl;rcases he:((C k).s.toList == s.toList)
   ·
    go_wp2;go_roundw
    case rel=>exact⟨k+1,by omega,by go_num,by rw [HN.out,hno,he];rfl,bj hb (Xa _ _)⟩
    case measure=>simp [XX];omega
   ·
    go_wp2;go_ret
    refine⟨_,rfl,⟨λ_=>Ii (k:=k+1) (by rw [HN.out,he];simp) n (by omega),λ_=>by omega⟩,bj hb (Xa _ _)⟩
  ·
   obtain rfl:k=n:=by omega
   go_wp2;go_ret
   exact⟨_,rfl,by rw [hno];simp,hb⟩
def BP(m:Int)(s:ByteArray)(m':Int)(s':ByteArray):Int:=if Cv m s m' s'=true then -1 else if (decide (m'<m) || !(s.toList == s'.toList))=true then 1 else 0
theorem DL(o m:Int)(s:ByteArray)(o' m':Int)(s':ByteArray)(w:ο):XR μ 135 #[χ #[ι κ o,ι κ m,τ s],χ #[ι κ o',ι κ m',τ s']] w λe w'=>e=ρ (ι κ (BP m s m' s'))/\υ w.heap.size w w':=by
 have hb0:=AA (AE w (γ #[ι κ o,ι κ m,τ s] 94)) (AE _ (γ #[ι κ o',ι κ m',τ s'] 94));by_cases h1:m<m'
 ·
  have HB:Hid (BP m s m' s'=-1):=by simp [Hid,BP,Cv,h1]
  go_enter Tryz.func135,Tryz.ntmps135
  go_wp2;all_goals go_ret
  all_goals exact⟨by rw [HB.out];rfl,hb0⟩
 rcases h2:Xh s.toList s'.toList
 ·
  by_cases h3:m'<m
  ·
   have HB:Hid (BP m s m' s'=1):=by simp [Hid,BP,Cv,h1,h2,h3]
   go_enter Tryz.func135,Tryz.ntmps135
   go_wp2;all_goals go_ret
   all_goals exact⟨by rw [HB.out];rfl,hb0⟩
  ·
   rcases h4:(s.toList == s'.toList)
   ·
    have HB:Hid (BP m s m' s'=1):=by simp [Hid,BP,Cv,h1,h2,h3,h4]
    go_enter Tryz.func135,Tryz.ntmps135
    go_wp2;all_goals go_ret
    all_goals exact⟨by rw [HB.out];rfl,hb0⟩
   ·
    have HB:Hid (BP m s m' s'=0):=by simp [Hid,BP,Cv,h1,h2,h3,h4]
    go_enter Tryz.func135,Tryz.ntmps135
    go_wp2;all_goals go_ret
    all_goals exact⟨by rw [HB.out];rfl,hb0⟩
 ·
  have HB:Hid (BP m s m' s'=-1):=by simp [Hid,BP,Cv,h2]
  go_enter Tryz.func135,Tryz.ntmps135
  go_wp2;all_goals go_ret
  all_goals exact⟨by rw [HB.out];rfl,hb0⟩
def Bo(C:Nat->Clm)(s:ByteArray):Nat->Option Nat
 | 0=>ν
 | k+1=>match Bo C s k with
  | some j=>ς j
  | none=>if ((C k).s.toList == s.toList)=true then ς k else ν
def Hj(o:Option Nat):Int:=match o with
 | some j=>(j:Int)
 | none=>-1
theorem LF{C:Nat->Clm}{s:ByteArray}{k j:Nat}(h:Bo C s k=ς j):∀ n,k<=n->Bo C s n=ς j:=by
 intro n hn;induction n with
 | zero=>
  obtain rfl:k=0:=by omega
  exact h
 | succ n ih=>
  by_cases e:k=n+1
  · subst e;exact h
  · rw [Bo,ih (by omega)]
theorem Cu{C:Nat->Clm}{s:ByteArray}:∀ {n j:Nat},Bo C s n=ς j->j<n/\(C j).s=s
 | 0,j,h=>by cases h
 | n+1,j,h=>by
  rw [Bo] at h;split at h
  ·
   rename_i i hi
   cases h
   have:=Cu hi;exact⟨by omega,this.2⟩
  ·
   split at h
   ·
    rename_i he
    cases h
    exact⟨by omega,Bt (eq_of_beq he)⟩
   · cases h
theorem ED(a:Option Addr)(n c:Nat)(C:Nat->Clm)(s:ByteArray)(w:ο)(h:CL w a n C)(hn:n<=1048576):XR μ 81 #[σ a n c,τ s] w λe w'=>e=ρ (ι κ (Hj (Bo C s n)))/\υ w.heap.size w w':=by
 have hb0:=Xa w.heap.size w;go_enter Tryz.func81,Tryz.ntmps81
 go_wp2;go_loopw [5,6,9] (λ_ _ i wr=>∃ k:Nat,k<=n/\i=ι κ k/\Bo C s k=ν/\υ w.heap.size w wr) (λ_ _ i _=>n - (XX i).toNat)
 case atStart=>exact⟨0,by omega,rfl,rfl,hb0⟩
 case round=>
  obtain⟨k,hk,rfl,hno,hb⟩:=hrel;have HNO:Hid (Bo C s k=ν):=hno;clear hno;by_cases hlt:k<n
  ·
   obtain⟨b,off,rfl,d0,d1,hs⟩:=h.later hb k hlt;have HN:Hid (Bo C s (k+1)=if ((C k).s.toList == s.toList)=true then ς k else ν):=by show _=_;rw [Bo,HNO.out]
   rcases he:((C k).s.toList == s.toList)
   ·
    go_wp2;go_roundw
    case rel=>exact⟨k+1,by omega,by go_num,by rw [HN.out,he];rfl,bj hb (Xa _ _)⟩
    case measure=>simp [XX];omega
   ·
    go_wp2;go_ret
    refine⟨?_,bj hb (Xa _ _)⟩;rw [LF (k:=k+1) (j:=k) (by rw [HN.out,he];rfl) n (by omega)];rfl
  ·
   obtain rfl:k=n:=by omega
   go_wp2;go_ret
   exact⟨by rw [HNO.out];rfl,hb⟩
def DJ(b:Bool):Int:=if b=true then 1 else 0
def N6(b:Bool):Itm:=⟨1,DJ b,⟨#[]⟩⟩
theorem DW(b:Bool)(w:ο):XR μ 136 #[β b] w λe w'=>e=ρ (χ #[ι κ 1,ι κ (DJ b),τ ⟨#[]⟩])/\υ w.heap.size w w':=by
 cases b
 ·
  go_enter Tryz.func136,Tryz.ntmps136
  go_wp2;exact XL (v:=χ #[ι κ 1,ι κ 0,τ ⟨#[]⟩]) (by simp [results,Tryz.results136,go_sem]) rfl ⟨rfl,AE _ _⟩
 ·
  go_enter Tryz.func136,Tryz.ntmps136
  go_wp2;exact XL (v:=χ #[ι κ 1,ι κ 1,τ ⟨#[]⟩]) (by simp [results,Tryz.results136,go_sem]) rfl ⟨rfl,AE _ _⟩
set_option maxHeartbeats 8000000
def DS(o:Int)(x y:Itm):Itm:=
 if o=11 then N6 (decide (x.m=0))
 else if o=13 then ⟨1,(x.s.size:Int),⟨#[]⟩⟩
 else if o=4 then ⟨1,wrap64 (x.m+y.m),⟨#[]⟩⟩
 else if o=5 then ⟨1,wrap64 (x.m - y.m),⟨#[]⟩⟩
 else if o=6 then ⟨1,wrap64 (x.m * y.m),⟨#[]⟩⟩
 else if o=7 then N6 (decide (BP x.m x.s y.m y.s=0))
 else if o=8 then N6 (decide (BP x.m x.s y.m y.s<0))
 else if o=9 then N6 (!decide (x.m=0) && !decide (y.m=0))
 else if o=10 then N6 (!decide (x.m=0) || !decide (y.m=0))
 else ⟨2,0,x.s ++ y.s⟩
theorem Cz{W:ο}{R:Nat}{X:Array XU}(h:W.heap[R]?=ς (γ X 94 (0,0)))(v0 v1 v2:XU):(((W.setCell ⟨R,0,ν⟩ v0).setCell ⟨R,1,ν⟩ v1).setCell ⟨R,2,ν⟩ v2).heap[R]?=ς (γ (((X.setIfInBounds 0 v0).setIfInBounds 1 v1).setIfInBounds 2 v2) 94 (0,0)):=
 π _ _ 2 _ _ v2 (π _ _ 1 _ _ v1 (π _ _ 0 _ _ v0 h))
theorem BB{w W:ο}{R:Nat}(hb:υ w.heap.size w W)(h:w.heap.size<=R)(v0 v1 v2:XU):υ w.heap.size w (((W.setCell ⟨R,0,ν⟩ v0).setCell ⟨R,1,ν⟩ v1).setCell ⟨R,2,ν⟩ v2):=Al (Al (Al hb h) h) h
theorem R4(a:Option Addr)(m c:Nat)(I:Nat->Itm)(w:ο)(h:IL w a m I)(hm:1<=m)(hm2:m<=1048576) :
 XR μ 82 #[ι κ 13,σ a m c] w λe w'=>e=ρ (χ #[ι κ 1,ι κ ((I 0).s.size:Int),τ ⟨#[]⟩])/\υ w.heap.size w w':=by
 have i0:(0:Int)<m:=by omega
 obtain⟨b,off,rfl,c0,c1,c2,hs⟩:=h.later (AE w (γ #[ι κ 0,ι κ 0,τ ⟨#[]⟩] 94)) 0 (by omega);simp only [Nat.zero_mul,Xm] at c0 c1 c2
 go_enter Tryz.func82,Tryz.ntmps82
 go_wp2;exact XL (v:=χ #[ι κ 1,ι κ ((I 0).s.size:Int),τ ⟨#[]⟩]) (by simp [results,Tryz.results82,go_sem]) rfl ⟨rfl,by first | exact AA (AE _ _) (AE _ _) | exact A7 _ _ _ _⟩
theorem UV(a:Option Addr)(m c:Nat)(I:Nat->Itm)(w:ο)(h:IL w a m I)(hm:2<=m)(hm2:m<=1048576) :
 XR μ 82 #[ι κ 4,σ a m c] w λe w'=>e=ρ (χ #[ι κ 1,ι κ (wrap64 ((I 0).m+(I 1).m)),τ ⟨#[]⟩])/\υ w.heap.size w w':=by
 have i0:(0:Int)<m:=by omega
 have i1:(1:Int)<m:=by omega
 obtain⟨b,off,rfl,c0,c1,c2,hs⟩:=h.later (AE w (γ #[ι κ 0,ι κ 0,τ ⟨#[]⟩] 94)) 0 (by omega);simp only [Nat.zero_mul,Xm] at c0 c1 c2
 obtain⟨b',off',e',d0,d1,d2,hs'⟩:=h.later (w':=((w.alloc (γ #[ι κ 0,ι κ 0,τ ⟨#[]⟩] 94)).alloc (γ #[ι κ (I 0).o,ι κ (I 0).m,τ (I 0).s] 94))) (AA (AE _ _) (AE _ _)) 1 (by omega);simp only [Nat.one_mul] at d0 d1 d2
 obtain⟨rfl,rfl⟩:b=b'/\off=off':=by simpa using e'
 clear e';go_enter Tryz.func82,Tryz.ntmps82
 go_wp2;exact XL (v:=χ #[ι κ 1,ι κ (wrap64 ((I 0).m+(I 1).m)),τ ⟨#[]⟩]) (by simp [results,Tryz.results82,go_sem]) rfl ⟨rfl,by first | exact AA (AE _ _) (AE _ _) | exact A7 _ _ _ _⟩
theorem UU(a:Option Addr)(m c:Nat)(I:Nat->Itm)(w:ο)(h:IL w a m I)(hm:2<=m)(hm2:m<=1048576) :
 XR μ 82 #[ι κ 5,σ a m c] w λe w'=>e=ρ (χ #[ι κ 1,ι κ (wrap64 ((I 0).m - (I 1).m)),τ ⟨#[]⟩])/\υ w.heap.size w w':=by
 have i0:(0:Int)<m:=by omega
 have i1:(1:Int)<m:=by omega
 obtain⟨b,off,rfl,c0,c1,c2,hs⟩:=h.later (AE w (γ #[ι κ 0,ι κ 0,τ ⟨#[]⟩] 94)) 0 (by omega);simp only [Nat.zero_mul,Xm] at c0 c1 c2
 obtain⟨b',off',e',d0,d1,d2,hs'⟩:=h.later (w':=((w.alloc (γ #[ι κ 0,ι κ 0,τ ⟨#[]⟩] 94)).alloc (γ #[ι κ (I 0).o,ι κ (I 0).m,τ (I 0).s] 94))) (AA (AE _ _) (AE _ _)) 1 (by omega);simp only [Nat.one_mul] at d0 d1 d2
 obtain⟨rfl,rfl⟩:b=b'/\off=off':=by simpa using e'
 clear e';go_enter Tryz.func82,Tryz.ntmps82
 go_wp2;exact XL (v:=χ #[ι κ 1,ι κ (wrap64 ((I 0).m - (I 1).m)),τ ⟨#[]⟩]) (by simp [results,Tryz.results82,go_sem]) rfl ⟨rfl,by first | exact AA (AE _ _) (AE _ _) | exact A7 _ _ _ _⟩
theorem UT(a:Option Addr)(m c:Nat)(I:Nat->Itm)(w:ο)(h:IL w a m I)(hm:2<=m)(hm2:m<=1048576) :
 XR μ 82 #[ι κ 6,σ a m c] w λe w'=>e=ρ (χ #[ι κ 1,ι κ (wrap64 ((I 0).m * (I 1).m)),τ ⟨#[]⟩])/\υ w.heap.size w w':=by
 have i0:(0:Int)<m:=by omega
 have i1:(1:Int)<m:=by omega
 obtain⟨b,off,rfl,c0,c1,c2,hs⟩:=h.later (AE w (γ #[ι κ 0,ι κ 0,τ ⟨#[]⟩] 94)) 0 (by omega);simp only [Nat.zero_mul,Xm] at c0 c1 c2
 obtain⟨b',off',e',d0,d1,d2,hs'⟩:=h.later (w':=((w.alloc (γ #[ι κ 0,ι κ 0,τ ⟨#[]⟩] 94)).alloc (γ #[ι κ (I 0).o,ι κ (I 0).m,τ (I 0).s] 94))) (AA (AE _ _) (AE _ _)) 1 (by omega);simp only [Nat.one_mul] at d0 d1 d2
 obtain⟨rfl,rfl⟩:b=b'/\off=off':=by simpa using e'
 clear e';go_enter Tryz.func82,Tryz.ntmps82
 go_wp2;exact XL (v:=χ #[ι κ 1,ι κ (wrap64 ((I 0).m * (I 1).m)),τ ⟨#[]⟩]) (by simp [results,Tryz.results82,go_sem]) rfl ⟨rfl,by first | exact AA (AE _ _) (AE _ _) | exact A7 _ _ _ _⟩
theorem R5(a:Option Addr)(m c:Nat)(I:Nat->Itm)(w:ο)(h:IL w a m I)(hm:2<=m)(hm2:m<=1048576) :
 XR μ 82 #[ι κ 12,σ a m c] w λe w'=>e=ρ (χ #[ι κ 2,ι κ 0,τ ((I 0).s ++ (I 1).s)])/\υ w.heap.size w w':=by
 have i0:(0:Int)<m:=by omega
 have i1:(1:Int)<m:=by omega
 obtain⟨b,off,rfl,c0,c1,c2,hs⟩:=h.later (AE w (γ #[ι κ 0,ι κ 0,τ ⟨#[]⟩] 94)) 0 (by omega);simp only [Nat.zero_mul,Xm] at c0 c1 c2
 obtain⟨b',off',e',d0,d1,d2,hs'⟩:=h.later (w':=((w.alloc (γ #[ι κ 0,ι κ 0,τ ⟨#[]⟩] 94)).alloc (γ #[ι κ (I 0).o,ι κ (I 0).m,τ (I 0).s] 94))) (AA (AE _ _) (AE _ _)) 1 (by omega);simp only [Nat.one_mul] at d0 d1 d2
 obtain⟨rfl,rfl⟩:b=b'/\off=off':=by simpa using e'
 clear e';go_enter Tryz.func82,Tryz.ntmps82
 go_wp2;exact XL (v:=χ #[ι κ 2,ι κ 0,τ ((I 0).s ++ (I 1).s)]) (by simp [results,Tryz.results82,go_sem]) rfl ⟨rfl,by first | exact AA (AE _ _) (AE _ _) | exact A7 _ _ _ _⟩
theorem R6(a:Option Addr)(m c:Nat)(I:Nat->Itm)(w:ο)(h:IL w a m I)(hm:1<=m)(hm2:m<=1048576) :
 XR μ 82 #[ι κ 11,σ a m c] w λe w'=>e=ρ (χ #[ι κ 1,ι κ (DJ (decide ((I 0).m=0))),τ ⟨#[]⟩])/\υ w.heap.size w w':=by
 have i0:(0:Int)<m:=by omega
 obtain⟨b,off,rfl,c0,c1,c2,hs⟩:=h.later (AE w (γ #[ι κ 0,ι κ 0,τ ⟨#[]⟩] 94)) 0 (by omega);simp only [Nat.zero_mul,Xm] at c0 c1 c2
 have hb0:υ w.heap.size w ((w.alloc (γ #[ι κ 0,ι κ 0,τ ⟨#[]⟩] 94)).alloc (γ #[ι κ (I 0).o,ι κ (I 0).m,τ (I 0).s] 94)):=AA (AE _ _) (AE _ _);have HR0:Hid (((w.alloc (γ #[ι κ 0,ι κ 0,τ ⟨#[]⟩] 94)).alloc (γ #[ι κ (I 0).o,ι κ (I 0).m,τ (I 0).s] 94)).heap[w.heap.size]?=ς (γ #[ι κ 0,ι κ 0,τ ⟨#[]⟩] 94 (0,0))):=AC (η w _) (AE _ _);go_enter Tryz.func82,Tryz.ntmps82
 go_wp2_with (first | (go_at_call 136;refine(DW ((decide ((I 0).m=0))) _).mono ?_;rintro e w2 ⟨rfl,hb2⟩;have HR2:=AC HR0.out hb2;have r0:w2.cell? ⟨w.heap.size,0,ν⟩=ς (ι κ 0):=(ε _ _ 0 _ _ _ HR2).trans rfl;have rf0:w2.frozen? ⟨w.heap.size,0,ν⟩=false:=ζ _ _ 0 _ _ HR2;have r1:w2.cell? ⟨w.heap.size,1,ν⟩=ς (ι κ 0):=(ε _ _ 1 _ _ _ HR2).trans rfl;have rf1:w2.frozen? ⟨w.heap.size,1,ν⟩=false:=ζ _ _ 1 _ _ HR2;have r2:w2.cell? ⟨w.heap.size,2,ν⟩=ς (τ ⟨#[]⟩):=(ε _ _ 2 _ _ _ HR2).trans rfl;have rf2:w2.frozen? ⟨w.heap.size,2,ν⟩=false:=ζ _ _ 2 _ _ HR2;have B2:=AA hb0 hb2))
 exact XL (v:=χ #[ι κ 1,ι κ (DJ (decide ((I 0).m=0))),τ ⟨#[]⟩]) (Xd Tryz.results82 _ _ w.heap.size 94 _ (0,0) _ rfl (Cz HR2 _ _ _) Tryz.underlying94 rfl (by kernel_rfl)) rfl ⟨rfl,BB B2 (XK _) _ _ _⟩
theorem US(a:Option Addr)(m c:Nat)(I:Nat->Itm)(w:ο)(h:IL w a m I)(hm:2<=m)(hm2:m<=1048576) :
 XR μ 82 #[ι κ 7,σ a m c] w λe w'=>e=ρ (χ #[ι κ 1,ι κ (DJ (decide (BP (I 0).m (I 0).s (I 1).m (I 1).s=0))),τ ⟨#[]⟩])/\υ w.heap.size w w':=by
 have i0:(0:Int)<m:=by omega
 have i1:(1:Int)<m:=by omega
 obtain⟨b,off,rfl,c0,c1,c2,hs⟩:=h.later (AE w (γ #[ι κ 0,ι κ 0,τ ⟨#[]⟩] 94)) 0 (by omega);simp only [Nat.zero_mul,Xm] at c0 c1 c2
 obtain⟨b',off',e',d0,d1,d2,hs'⟩:=h.later (w':=((w.alloc (γ #[ι κ 0,ι κ 0,τ ⟨#[]⟩] 94)).alloc (γ #[ι κ (I 0).o,ι κ (I 0).m,τ (I 0).s] 94))) (AA (AE _ _) (AE _ _)) 1 (by omega);simp only [Nat.one_mul] at d0 d1 d2
 obtain⟨rfl,rfl⟩:b=b'/\off=off':=by simpa using e'
 clear e';have hb0:υ w.heap.size w (((w.alloc (γ #[ι κ 0,ι κ 0,τ ⟨#[]⟩] 94)).alloc (γ #[ι κ (I 0).o,ι κ (I 0).m,τ (I 0).s] 94)).alloc (γ #[ι κ (I 1).o,ι κ (I 1).m,τ (I 1).s] 94)):=A7 _ _ _ _;have HR0:Hid ((((w.alloc (γ #[ι κ 0,ι κ 0,τ ⟨#[]⟩] 94)).alloc (γ #[ι κ (I 0).o,ι κ (I 0).m,τ (I 0).s] 94)).alloc (γ #[ι κ (I 1).o,ι κ (I 1).m,τ (I 1).s] 94)).heap[w.heap.size]?=ς (γ #[ι κ 0,ι κ 0,τ ⟨#[]⟩] 94 (0,0))):=AC (AC (η w _) (AE _ _)) (AE _ _);go_enter Tryz.func82,Tryz.ntmps82
 go_wp2_with (first | (go_at_call 135;refine(DL (I 0).o (I 0).m (I 0).s (I 1).o (I 1).m (I 1).s _).mono ?_;rintro e w1 ⟨rfl,hb1⟩) | (go_at_call 136;refine(DW ((decide (BP (I 0).m (I 0).s (I 1).m (I 1).s=0))) _).mono ?_;rintro e w2 ⟨rfl,hb2⟩;have HR2:=AC (AC HR0.out hb1) hb2;have r0:w2.cell? ⟨w.heap.size,0,ν⟩=ς (ι κ 0):=(ε _ _ 0 _ _ _ HR2).trans rfl;have rf0:w2.frozen? ⟨w.heap.size,0,ν⟩=false:=ζ _ _ 0 _ _ HR2;have r1:w2.cell? ⟨w.heap.size,1,ν⟩=ς (ι κ 0):=(ε _ _ 1 _ _ _ HR2).trans rfl;have rf1:w2.frozen? ⟨w.heap.size,1,ν⟩=false:=ζ _ _ 1 _ _ HR2;have r2:w2.cell? ⟨w.heap.size,2,ν⟩=ς (τ ⟨#[]⟩):=(ε _ _ 2 _ _ _ HR2).trans rfl;have rf2:w2.frozen? ⟨w.heap.size,2,ν⟩=false:=ζ _ _ 2 _ _ HR2;have B2:=AA (AA hb0 hb1) hb2))
 exact XL (v:=χ #[ι κ 1,ι κ (DJ (decide (BP (I 0).m (I 0).s (I 1).m (I 1).s=0))),τ ⟨#[]⟩]) (Xd Tryz.results82 _ _ w.heap.size 94 _ (0,0) _ rfl (Cz HR2 _ _ _) Tryz.underlying94 rfl (by kernel_rfl)) rfl ⟨rfl,BB B2 (XK _) _ _ _⟩
theorem UR(a:Option Addr)(m c:Nat)(I:Nat->Itm)(w:ο)(h:IL w a m I)(hm:2<=m)(hm2:m<=1048576) :
 XR μ 82 #[ι κ 8,σ a m c] w λe w'=>e=ρ (χ #[ι κ 1,ι κ (DJ (decide (BP (I 0).m (I 0).s (I 1).m (I 1).s<0))),τ ⟨#[]⟩])/\υ w.heap.size w w':=by
 have i0:(0:Int)<m:=by omega
 have i1:(1:Int)<m:=by omega
 obtain⟨b,off,rfl,c0,c1,c2,hs⟩:=h.later (AE w (γ #[ι κ 0,ι κ 0,τ ⟨#[]⟩] 94)) 0 (by omega);simp only [Nat.zero_mul,Xm] at c0 c1 c2
 obtain⟨b',off',e',d0,d1,d2,hs'⟩:=h.later (w':=((w.alloc (γ #[ι κ 0,ι κ 0,τ ⟨#[]⟩] 94)).alloc (γ #[ι κ (I 0).o,ι κ (I 0).m,τ (I 0).s] 94))) (AA (AE _ _) (AE _ _)) 1 (by omega);simp only [Nat.one_mul] at d0 d1 d2
 obtain⟨rfl,rfl⟩:b=b'/\off=off':=by simpa using e'
 clear e';have hb0:υ w.heap.size w (((w.alloc (γ #[ι κ 0,ι κ 0,τ ⟨#[]⟩] 94)).alloc (γ #[ι κ (I 0).o,ι κ (I 0).m,τ (I 0).s] 94)).alloc (γ #[ι κ (I 1).o,ι κ (I 1).m,τ (I 1).s] 94)):=A7 _ _ _ _;have HR0:Hid ((((w.alloc (γ #[ι κ 0,ι κ 0,τ ⟨#[]⟩] 94)).alloc (γ #[ι κ (I 0).o,ι κ (I 0).m,τ (I 0).s] 94)).alloc (γ #[ι κ (I 1).o,ι κ (I 1).m,τ (I 1).s] 94)).heap[w.heap.size]?=ς (γ #[ι κ 0,ι κ 0,τ ⟨#[]⟩] 94 (0,0))):=AC (AC (η w _) (AE _ _)) (AE _ _);go_enter Tryz.func82,Tryz.ntmps82
 go_wp2_with (first | (go_at_call 135;refine(DL (I 0).o (I 0).m (I 0).s (I 1).o (I 1).m (I 1).s _).mono ?_;rintro e w1 ⟨rfl,hb1⟩) | (go_at_call 136;refine(DW ((decide (BP (I 0).m (I 0).s (I 1).m (I 1).s<0))) _).mono ?_;rintro e w2 ⟨rfl,hb2⟩;have HR2:=AC (AC HR0.out hb1) hb2;have r0:w2.cell? ⟨w.heap.size,0,ν⟩=ς (ι κ 0):=(ε _ _ 0 _ _ _ HR2).trans rfl;have rf0:w2.frozen? ⟨w.heap.size,0,ν⟩=false:=ζ _ _ 0 _ _ HR2;have r1:w2.cell? ⟨w.heap.size,1,ν⟩=ς (ι κ 0):=(ε _ _ 1 _ _ _ HR2).trans rfl;have rf1:w2.frozen? ⟨w.heap.size,1,ν⟩=false:=ζ _ _ 1 _ _ HR2;have r2:w2.cell? ⟨w.heap.size,2,ν⟩=ς (τ ⟨#[]⟩):=(ε _ _ 2 _ _ _ HR2).trans rfl;have rf2:w2.frozen? ⟨w.heap.size,2,ν⟩=false:=ζ _ _ 2 _ _ HR2;have B2:=AA (AA hb0 hb1) hb2))
 exact XL (v:=χ #[ι κ 1,ι κ (DJ (decide (BP (I 0).m (I 0).s (I 1).m (I 1).s<0))),τ ⟨#[]⟩]) (Xd Tryz.results82 _ _ w.heap.size 94 _ (0,0) _ rfl (Cz HR2 _ _ _) Tryz.underlying94 rfl (by kernel_rfl)) rfl ⟨rfl,BB B2 (XK _) _ _ _⟩
