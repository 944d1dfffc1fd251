import Derived.Test.YtfnfdllflgmhnaaGreatDoorNlx
import Derived.Deep.OwnRows
import Derived.Deep.RegionWith
import Derived.Laws.IdiomStrings
import Derived.Laws.BitsLemmas
import Derived.Deep.RegionHeld3
open Array renaming getElem?_eq_some_iff → XS
open ByteArray renaming empty → XN
open Go renaming Calls → XR, Value → XU, World → ο, bodyPost_ret → XL, cell_of_row → ε, frozen_of_row → ζ, heap_setCell_same → π, heap_alloc_new → η, wpAnyH_done → XW, wp_region_held_drew → XO
open Go.Ending renaming returned → ρ
open Go.Ground renaming data → φ, phase → ξ
open Go.IntKind renaming i64 → κ
open Go.Obj renaming cells → γ
open Go.Operand renaming tmp → δ
open Go.Proofs.Tryz renaming prog → μ
open Go.RowKit renaming Below → υ, intOf → XX
open Go.RowKit.Below renaming refl → Xa
open Go.Value renaming agg → χ, bool → β, int → ι, slice → σ, string → τ, pointer → ψ
open Nat renaming zero_add → XT, le_refl → XK, le_trans → Xe, zero_le → XZ
open Option renaming none → ν, some → ς
namespace Go.Proofs.YtfnfdllflgmhnaaGreatDoor
open Go.RowKit Go.Maps Go.WideMaps
set_option maxRecDepth 20000
set_option maxHeartbeats 4000000
theorem A7(w:ο)(a b c:Obj):υ w.heap.size w (((w.alloc a).alloc b).alloc c):=AA (AE w a) (AA (AE _ b) (AE _ c))
theorem C1{t e:TypeId}{z:XU}{size bytes:Nat}(ht:Tryz.prog.underlying t=ς (.slice e))(hinfo:(Tryz.prog.info? e).map (λi=>(i.zero,i.size,i.bytes))=ς (ς z,size,bytes))(n:Nat)(hn:n<=1048576)(hb:bytes<=1000)(w:ο) :
 (Instr.makeSlice t (ι κ (n:Int)) (ι κ (n:Int))).run μ w=.ok (σ (ς ⟨w.heap.size,0,ν⟩) n n) (w.alloc (γ (madeCells z.cells (n * size)) e)):=by
 obtain⟨i,hi,hzz⟩:=Option.map_eq_some_iff.1 hinfo;simp only [Prod.mk.injEq] at hzz
 obtain⟨hz,hs,hbb⟩:=hzz;have h1:((i.bytes:Int) * (n:Int))<=281474976710656:=by
  rw [hbb];have:bytes * n<=1000 * 1048576:=Nat.mul_le_mul hb hn;have h2:((bytes:Int) * (n:Int))=((bytes * n:Nat):Int):=by simp
  omega
 have:=run_make (P:=μ) w t e i z ht hi hz κ κ n n (by omega) (by omega) h1 (by omega);rw [hs] at this;simpa using this
theorem Bv(z:Array XU)(n:Nat):(madeCells z n).size=n:=by simp [size_madeCells]
theorem there{A:Array XU}{k:Nat}(h:k<A.size):∃ v,A[k]?=ς v:=⟨A[k],by simp [h]⟩
theorem setA{A:Array XU}{k i:Nat}{v u:XU}(h:A[i]?=ς u)(hne:k≠i):(A.setIfInBounds k v)[i]?=ς u:=by
 rw [Array.getElem?_setIfInBounds,if_neg hne];exact h
theorem Df{A:Array XU}{k:Nat}{v:XU}(h:k<A.size):(A.setIfInBounds k v)[k]?=ς v:=by
 rw [Array.getElem?_setIfInBounds];simp [h]
theorem BH(s:ByteArray):(s.toList == s.toList)=true:=by simp
def CX(w:ο)(a:Option Addr)(n:Nat)(C:Nat->Clm):Prop:=
 n<=9223372036854775807/\∀ k,k<n->∃ b off,a=ς ⟨b,off,ν⟩/\w.cell? ⟨b,off+k * 2,ν⟩=ς (τ (C k).s)/\w.cell? ⟨b,off+k * 2+1,ν⟩=ς (ι κ (C k).t)/\(C k).s.size<=9223372036854775807
theorem CX.later{w w':ο}{a:Option Addr}{n:Nat}{C:Nat->Clm}(h:CX w a n C)(hb:υ w.heap.size w w'):CX w' a n C:=⟨h.1,λk hk=>by
 obtain⟨b,off,e,h0,h1,hs⟩:=h.2 k hk;exact⟨b,off,e,AB hb h0,AB hb h1,hs⟩⟩
theorem CX.small{w:ο}{a:Option Addr}{n:Nat}{C:Nat->Clm}(h:CX w a n C)(hs:∀ k,k<n->(C k).s.size<=1048576):CL w a n C:=λk hk=>by
 obtain⟨b,off,e,h0,h1,_⟩:=h.2 k hk;exact⟨b,off,e,h0,h1,hs k hk⟩
theorem T2(s:ByteArray)(t:Int)(w:ο)(L:Int)(h0:0<=L)(h1:L<=1048576)(hs:s.size<=9223372036854775807) :
 XR μ 169 #[χ #[τ s,ι κ t],ι κ L] w λe w'=>υ w.heap.size w w'/\∃ r:Int,e=ρ (ι κ r)/\r<=1048576/\(0<=r->s.size<=1048576):=by
 go_enter Tryz.func169,Tryz.ntmps169
 by_cases hneg:(0:Int)<=L - s.size
 ·
  go_wp2;go_ret
  exact⟨AE _ _,_,rfl,by omega,λ_=>by omega⟩
 ·
  go_wp2;go_ret
  exact⟨AE _ _,-1,rfl,by omega,λhh=>by omega⟩
theorem Ro(a:Option Addr)(n c:Nat)(C:Nat->Clm)(w:ο)(h:CX w a n C)(L:Int)(h0:0<=L)(h1:L<=1048576) :
 XR μ 124 #[σ a n c,ι κ L] w λe w'=>υ w.heap.size w w'/\∃ r:Int,e=ρ (ι κ r)/\r<=1048576/\(0<=r->n<=1048576/\∀ k,k<n->(C k).s.size<=1048576):=by
 have hn:=h.1;have hb0:=Xa w.heap.size w;by_cases hs:(n:Int)<=L
 ·
  go_enter Tryz.func124,Tryz.ntmps124
  go_wp2;go_loopw [1,5] (λl i wr=>∃ k:Nat,∃ x:Int,k<=n/\i=ι κ k/\l=ι κ x/\0<=x/\x<=1048576/\(∀ j,j<k->(C j).s.size<=1048576)/\υ w.heap.size w wr) (λ_ i _=>n - (XX i).toNat)
  case atStart=>exact⟨0,_,by omega,rfl,rfl,by omega,by omega,λj hj=>by omega,hb0⟩
  case round=>
   obtain⟨k,x,hk,rfl,rfl,hx0,hx1,hall,hb⟩:=hrel;by_cases hlt:k<n
   ·
    obtain⟨b,off,rfl,c0,c1,hsz⟩:=(h.later hb).2 k hlt;go_wp2_with (go_at_call 169;refine(T2 _ _ _ _ hx0 hx1 hsz).mono ?_;rintro e w1 ⟨hb1,r,rfl,hr1,hr2⟩;replace hb1:=AA hb hb1;by_cases hr:(0:Int)<=r)
    ·
     go_roundw
     case rel=>exact⟨k+1,r,by omega,by go_num,rfl,hr,hr1,λj hj=>by
      by_cases e:j=k
      · subst e;exact hr2 hr
      · exact hall j (by omega),hb1⟩
     case measure=>simp [XX];omega
    ·
     go_ret
     exact⟨hb1,-1,rfl,by omega,λhh=>by omega⟩
   ·
    obtain rfl:k=n:=by omega
    go_wp2;go_ret
    exact⟨hb,_,rfl,hx1,λ_=>⟨by omega,hall⟩⟩
 ·
  go_enter Tryz.func124,Tryz.ntmps124
  go_wp2;go_ret
  exact⟨hb0,-1,rfl,by omega,λhh=>by omega⟩
theorem Tw(s:ByteArray)(t:Int)(w:ο):XR μ 180 #[χ #[τ s,ι κ t]] w λe w'=>e=ρ (χ #[τ s,ι κ t])/\υ w.heap.size w w':=by
 go_enter Tryz.func180,Tryz.ntmps180
 go_wp2;exact XL (v:=χ #[τ s,ι κ t]) (by simp [results,Tryz.results180,go_sem]) rfl ⟨rfl,A7 _ _ _ _⟩
theorem Tryz.infoCol:(Tryz.prog.info? 92).map (λi=>(i.zero,i.size,i.bytes))=ς (ς (χ #[τ XN,ι κ 0]),2,24):=by kernel_rfl
theorem WP(s:ByteArray)(t:Int)(w:ο):XR μ 203 #[χ #[τ s,ι κ t],χ #[τ s,ι κ t]] w λe w'=>e=ρ (β true)/\υ w.heap.size w w':=by
 have hq:=BH s;go_enter Tryz.func203,Tryz.ntmps203
 go_wp2;go_ret
 exact⟨rfl,AA (AE _ _) (AE _ _)⟩
theorem Te(a a':Option Addr)(n c c':Nat)(C:Nat->Clm)(w:ο)(h:CL w a n C)(h':CL w a' n C)(hn:n<=1048576) :
 XR μ 168 #[σ a n c,σ a' n c'] w λe w'=>e=ρ (β true)/\υ w.heap.size w w':=by
 have hb0:=Xa w.heap.size w;go_enter Tryz.func168,Tryz.ntmps168
 go_wp2;go_loopw [5] (λi wr=>∃ k:Nat,k<=n/\i=ι κ k/\υ w.heap.size w wr) (λi _=>n - (XX i).toNat)
 case atStart=>exact⟨0,by omega,rfl,hb0⟩
 case round=>
  obtain⟨k,hk,rfl,hb⟩:=hrel;by_cases hlt:k<n
  ·
   have hkk:(k:Int)<n:=by omega
   obtain⟨b,off,rfl,c0,c1,_⟩:=h.later hb k hlt;obtain⟨b',off',rfl,e0,e1,_⟩:=h'.later hb k hlt;go_wp2;go_region_with (go_at_call 203;refine(WP _ _ _).mono ?_;rintro e w1 ⟨rfl,hb1⟩)
   all_goals
    go_wp2;go_roundw
    case rel=>exact⟨k+1,by omega,by go_num,AA hb (Aa hb1)⟩
    case measure=>simp [XX];omega
  ·
   obtain rfl:k=n:=by omega
   go_wp2;go_ret
   exact⟨rfl,hb⟩
def IX(w:ο)(a:Option Addr)(n:Nat)(I:Nat->Itm):Prop:=
 n<=9223372036854775807/\∀ k,k<n->∃ b off,a=ς ⟨b,off,ν⟩/\w.cell? ⟨b,off+k * 3,ν⟩=ς (ι κ (I k).o)/\w.cell? ⟨b,off+k * 3+1,ν⟩=ς (ι κ (I k).m)/\w.cell? ⟨b,off+k * 3+2,ν⟩=ς (τ (I k).s)/\(I k).s.size<=9223372036854775807
theorem IX.later{w w':ο}{a:Option Addr}{n:Nat}{I:Nat->Itm}(h:IX w a n I)(hb:υ w.heap.size w w'):IX w' a n I:=⟨h.1,λk hk=>by
 obtain⟨b,off,e,h0,h1,h2,hs⟩:=h.2 k hk;exact⟨b,off,e,AB hb h0,AB hb h1,AB hb h2,hs⟩⟩
theorem IX.small{w:ο}{a:Option Addr}{n:Nat}{I:Nat->Itm}(h:IX w a n I)(hs:∀ k,k<n->(I k).s.size<=1048576):IL w a n I:=λk hk=>by
 obtain⟨b,off,e,h0,h1,h2,_⟩:=h.2 k hk;exact⟨b,off,e,h0,h1,h2,hs k hk⟩
theorem Tx(o:Int)(m:Int)(s:ByteArray)(w:ο)(L:Int)(h0:0<=L)(h1:L<=1048576)(hs:s.size<=9223372036854775807) :
 XR μ 204 #[χ #[ι κ o,ι κ m,τ s],ι κ L] w λe w'=>υ w.heap.size w w'/\∃ r:Int,e=ρ (ι κ r)/\r<=1048576/\(0<=r->s.size<=1048576):=by
 go_enter Tryz.func204,Tryz.ntmps204
 by_cases hneg:(0:Int)<=L - s.size
 ·
  go_wp2;go_ret
  exact⟨AE _ _,_,rfl,by omega,λ_=>by omega⟩
 ·
  go_wp2;go_ret
  exact⟨AE _ _,-1,rfl,by omega,λhh=>by omega⟩
theorem Rj(a:Option Addr)(n c:Nat)(I:Nat->Itm)(w:ο)(h:IX w a n I)(L:Int)(h0:0<=L)(h1:L<=1048576) :
 XR μ 170 #[σ a n c,ι κ L] w λe w'=>υ w.heap.size w w'/\∃ r:Int,e=ρ (ι κ r)/\r<=1048576/\(0<=r->n<=1048576/\∀ k,k<n->(I k).s.size<=1048576):=by
 have hn:=h.1;have hb0:=Xa w.heap.size w;by_cases hs:(n:Int)<=L
 ·
  go_enter Tryz.func170,Tryz.ntmps170
  go_wp2;go_loopw [1,5] (λl i wr=>∃ k:Nat,∃ x:Int,k<=n/\i=ι κ k/\l=ι κ x/\0<=x/\x<=1048576/\(∀ j,j<k->(I j).s.size<=1048576)/\υ w.heap.size w wr) (λ_ i _=>n - (XX i).toNat)
  case atStart=>exact⟨0,_,by omega,rfl,rfl,by omega,by omega,λj hj=>by omega,hb0⟩
  case round=>
   obtain⟨k,x,hk,rfl,rfl,hx0,hx1,hall,hb⟩:=hrel;by_cases hlt:k<n
   ·
    obtain⟨b,off,rfl,c0,c1,c2,hsz⟩:=(h.later hb).2 k hlt;go_wp2_with (go_at_call 204;refine(Tx _ _ _ _ _ hx0 hx1 hsz).mono ?_;rintro e w1 ⟨hb1,r,rfl,hr1,hr2⟩;replace hb1:=AA hb hb1;by_cases hr:(0:Int)<=r)
    ·
     go_roundw
     case rel=>exact⟨k+1,r,by omega,by go_num,rfl,hr,hr1,λj hj=>by
      by_cases e:j=k
      · subst e;exact hr2 hr
      · exact hall j (by omega),hb1⟩
     case measure=>simp [XX];omega
    ·
     go_ret
     exact⟨hb1,-1,rfl,by omega,λhh=>by omega⟩
   ·
    obtain rfl:k=n:=by omega
    go_wp2;go_ret
    exact⟨hb,_,rfl,hx1,λ_=>⟨by omega,hall⟩⟩
 ·
  go_enter Tryz.func170,Tryz.ntmps170
  go_wp2;go_ret
  exact⟨hb0,-1,rfl,by omega,λhh=>by omega⟩
theorem Tq(o:Int)(m:Int)(s:ByteArray)(w:ο):XR μ 205 #[χ #[ι κ o,ι κ m,τ s]] w λe w'=>e=ρ (χ #[ι κ o,ι κ m,τ s])/\υ w.heap.size w w':=by
 go_enter Tryz.func205,Tryz.ntmps205
 go_wp2;exact XL (v:=χ #[ι κ o,ι κ m,τ s]) (by simp [results,Tryz.results205,go_sem]) rfl ⟨rfl,A7 _ _ _ _⟩
theorem Tryz.infoVal:(Tryz.prog.info? 94).map (λi=>(i.zero,i.size,i.bytes))=ς (ς (χ #[ι κ 0,ι κ 0,τ XN]),3,32):=by kernel_rfl
theorem WK(o:Int)(m:Int)(s:ByteArray)(w:ο):XR μ 58 #[χ #[ι κ o,ι κ m,τ s],χ #[ι κ o,ι κ m,τ s]] w λe w'=>e=ρ (β true)/\υ w.heap.size w w':=by
 have hq:=BH s;go_enter Tryz.func58,Tryz.ntmps58
 go_wp2;go_ret
 exact⟨rfl,AA (AE _ _) (AE _ _)⟩
theorem TY(a a':Option Addr)(n c c':Nat)(I:Nat->Itm)(w:ο)(h:IL w a n I)(h':IL w a' n I)(hn:n<=1048576) :
 XR μ 26 #[σ a n c,σ a' n c'] w λe w'=>e=ρ (β true)/\υ w.heap.size w w':=by
 have hb0:=Xa w.heap.size w;go_enter Tryz.func26,Tryz.ntmps26
 go_wp2;go_loopw [5] (λi wr=>∃ k:Nat,k<=n/\i=ι κ k/\υ w.heap.size w wr) (λi _=>n - (XX i).toNat)
 case atStart=>exact⟨0,by omega,rfl,hb0⟩
 case round=>
  obtain⟨k,hk,rfl,hb⟩:=hrel;by_cases hlt:k<n
  ·
   have hkk:(k:Int)<n:=by omega
   obtain⟨b,off,rfl,c0,c1,c2,_⟩:=h.later hb k hlt;obtain⟨b',off',rfl,e0,e1,e2,_⟩:=h'.later hb k hlt;go_wp2;go_region_with (go_at_call 58;refine(WK _ _ _ _).mono ?_;rintro e w1 ⟨rfl,hb1⟩)
   all_goals
    go_wp2;go_roundw
    case rel=>exact⟨k+1,by omega,by go_num,AA hb (Aa hb1)⟩
    case measure=>simp [XX];omega
  ·
   obtain rfl:k=n:=by omega
   go_wp2;go_ret
   exact⟨rfl,hb⟩
theorem Tryz.infoItm:(Tryz.prog.info? 135).map (λi=>(i.zero,i.size,i.bytes))=ς (ς (χ #[ι κ 0,ι κ 0,τ XN]),3,32):=by kernel_rfl
def OX(w:ο)(a:Option Addr)(n:Nat)(m:Nat->Nat)(O:Nat->Nat->Itm):Prop:=
 n<=9223372036854775807/\∀ k,k<n->∃ b off i c,a=ς ⟨b,off,ν⟩/\w.cell? ⟨b,off+k,ν⟩=ς (σ i (m k) c)/\IX w i (m k) (O k)
theorem OX.later{w w':ο}{a:Option Addr}{n:Nat}{m:Nat->Nat}{O:Nat->Nat->Itm}(h:OX w a n m O)(hb:υ w.heap.size w w'):OX w' a n m O:=⟨h.1,λk hk=>by
 obtain⟨b,off,i,c,e,h0,hi⟩:=h.2 k hk;exact⟨b,off,i,c,e,AB hb h0,hi.later hb⟩⟩
theorem OX.small{w:ο}{a:Option Addr}{n:Nat}{m:Nat->Nat}{O:Nat->Nat->Itm}(h:OX w a n m O)(hs:∀ k,k<n->m k<=1048576/\∀ j,j<m k->(O k j).s.size<=1048576):OL w a n m O:=λk hk=>by
 obtain⟨b,off,i,c,e,h0,hi⟩:=h.2 k hk;exact⟨b,off,i,c,e,h0,hi.small (hs k hk).2,(hs k hk).1⟩
theorem IL.set{w:ο}{g n B k:Nat}{I:Nat->Itm}{v:XU}(h:IL w (ς ⟨g,0,ν⟩) n I)(hne:B≠g):IL (w.setCell ⟨B,k,ν⟩ v) (ς ⟨g,0,ν⟩) n I:=λj hj=>by
 obtain⟨b,off,e,h0,h1,h2,hs⟩:=h j hj;obtain⟨rfl,rfl⟩:g=b/\0=off:=by simpa using e
 exact⟨g,0,rfl,by rw [World.cell?_setCell_far _ _ _ _ hne];exact h0,by rw [World.cell?_setCell_far _ _ _ _ hne];exact h1,by rw [World.cell?_setCell_far _ _ _ _ hne];exact h2,hs⟩
def Kp(G:Nat)(w w':ο):Prop:=∀ a v,G<=a.block->w.cell? a=ς v->w'.cell? a=ς v
theorem Kp.of{w w':ο}(G:Nat)(hb:υ w.heap.size w w'):Kp G w w':=λ_ _ _ h=>AB hb h
theorem Kp.trans{G:Nat}{a b c:ο}(h:Kp G a b)(k:Kp G b c):Kp G a c:=λx v hx hc=>k x v hx (h x v hx hc)
theorem Kp.set{G B i:Nat}{w:ο}{v:XU}(h:B<G):Kp G w (w.setCell ⟨B,i,ν⟩ v):=λx u hx hc=>by
 rw [World.cell?_setCell_far _ _ _ _ (show B≠x.block by omega)];exact hc
theorem CL.kp{G g n:Nat}{w w':ο}{C:Nat->Clm}(h:CL w (ς ⟨g,0,ν⟩) n C)(k:Kp G w w')(hg:G<=g):CL w' (ς ⟨g,0,ν⟩) n C:=λj hj=>by
 obtain⟨b,off,e,h0,h1,hs⟩:=h j hj;obtain⟨rfl,rfl⟩:g=b/\0=off:=by simpa using e
 exact⟨g,0,rfl,k _ _ hg h0,k _ _ hg h1,hs⟩
theorem IL.kp{G g n:Nat}{w w':ο}{I:Nat->Itm}(h:IL w (ς ⟨g,0,ν⟩) n I)(k:Kp G w w')(hg:G<=g):IL w' (ς ⟨g,0,ν⟩) n I:=λj hj=>by
 obtain⟨b,off,e,h0,h1,h2,hs⟩:=h j hj;obtain⟨rfl,rfl⟩:g=b/\0=off:=by simpa using e
 exact⟨g,0,rfl,k _ _ hg h0,k _ _ hg h1,k _ _ hg h2,hs⟩
def OF(G:Nat)(w:ο)(g n:Nat)(m:Nat->Nat)(O:Nat->Nat->Itm):Prop:=
 ∀ k,k<n->∃ q,G<=q/\w.cell? ⟨g,k,ν⟩=ς (σ (ς ⟨q,0,ν⟩) (m k) (m k))/\IL w (ς ⟨q,0,ν⟩) (m k) (O k)/\m k<=1048576
theorem OF.kp{G H g n:Nat}{w w':ο}{m:Nat->Nat}{O:Nat->Nat->Itm}(h:OF G w g n m O)(k:Kp H w w')(hg:H<=g)(hG:H<=G):OF G w' g n m O:=λj hj=>by
 obtain⟨q,hq,h0,hi,hm⟩:=h j hj;exact⟨q,hq,k _ _ hg h0,hi.kp k (by omega),hm⟩
theorem OF.ol{G g n:Nat}{w:ο}{m:Nat->Nat}{O:Nat->Nat->Itm}(h:OF G w g n m O):OL w (ς ⟨g,0,ν⟩) n m O:=λj hj=>by
 obtain⟨q,hq,h0,hi,hm⟩:=h j hj;exact⟨g,0,_,_,rfl,by rw [XT];exact h0,hi,hm⟩
theorem IL.drew{w:ο}{a:Option Addr}{n:Nat}{I:Nat->Itm}(h:IL w a n I):IL w.drew a n I:=h
structure SX(w:ο)(d:St)(p:Sa):Prop where
 tb:d.tb.size<=9223372036854775807
 col:d.col.size<=9223372036854775807
 co:CX w p.a2 d.n2 d.C
 va:IX w p.a3 d.n3 d.V
 ex:IX w p.a5 d.n5 d.E
 wh:IX w p.a6 d.n6 d.W
 ou:OX w p.a7 d.n7 d.m7 d.O
theorem SX.later{w w':ο}{d:St}{p:Sa}(h:SX w d p)(hb:υ w.heap.size w w'):SX w' d p:=
 ⟨h.tb,h.col,h.co.later hb,h.va.later hb,h.ex.later hb,h.wh.later hb,h.ou.later hb⟩
structure Sm8(d:St):Prop where
 tb:d.tb.size<=1048576
 col:d.col.size<=1048576
 co:d.n2<=1048576/\∀ k,k<d.n2->(d.C k).s.size<=1048576
 va:d.n3<=1048576/\∀ k,k<d.n3->(d.V k).s.size<=1048576
 ex:d.n5<=1048576/\∀ k,k<d.n5->(d.E k).s.size<=1048576
 wh:d.n6<=1048576/\∀ k,k<d.n6->(d.W k).s.size<=1048576
 ou:d.n7<=1048576/\∀ k,k<d.n7->d.m7 k<=1048576/\∀ j,j<d.m7 k->(d.O k j).s.size<=1048576
theorem SX.small{w:ο}{d:St}{p:Sa}(h:SX w d p)(s:Sm8 d):SM w d p:=
 ⟨s.tb,s.col,h.co.small s.co.2,h.va.small s.va.2,h.ex.small s.ex.2,h.wh.small s.wh.2,h.ou.small s.ou.2,s.co.1,s.va.1,s.ex.1,s.wh.1,s.ou.1⟩
theorem AC{w w':ο}{B:Nat}{o:Obj}(h:w.heap[B]?=ς o)(hb:υ w.heap.size w w'):w'.heap[B]?=ς o:=(hb.block B (XS.1 h).1).trans h
theorem AS{w:ο}{B B' i:Nat}{o:Obj}{v:XU}(h:w.heap[B']?=ς o)(hne:B'≠B):(w.setCell ⟨B,i,ν⟩ v).heap[B']?=ς o:=(heap_setCell_other _ _ _ _ hne).trans h
theorem Al{w V:ο}{B i:Nat}{v:XU}(hb:υ w.heap.size w V)(hB:w.heap.size<=B):υ w.heap.size w (V.setCell ⟨B,i,ν⟩ v):=hb.setCell hB _
theorem AQ{a b c:ο}{r:Option Nat}(h:a.grownBy b r)(k:b.grownBy c r):a.grownBy c r:=
 ⟨k.os.trans h.os,k.tape.trans h.tape,k.output.trans h.output,Xe h.size k.size,λi hi hn=>(k.block i (Nat.lt_of_lt_of_le hi h.size) hn).trans (h.block i hi hn)⟩
theorem A8(w:ο)(B i:Nat)(v:XU):w.grownBy (w.setCell ⟨B,i,ν⟩ v) (ς B):=
 have hb:υ B w (w.setCell ⟨B,i,ν⟩ v):=(Xa B w).setCell (XK B) v;⟨hb.os,hb.tape,hb.output,hb.size,λk _ hn=>heap_setCell_other _ _ _ _ (λe=>hn (by rw [e]))⟩
theorem BK{w w':ο}(h:υ w.heap.size w w')(r:Option Nat):w.grownBy w' r:=⟨h.os,h.tape,h.output,h.size,λk hk _=>h.block k hk⟩
theorem NX(w:ο)(r:Option Nat):w.grownBy w r:=BK (Xa _ _) r
def RD(w:ο)(B:Nat)(rest:ByteArray)(sh:Bool):Prop:=w.heap[B]?=ς (γ #[τ rest,β sh] 110 (0,0))
theorem RD.lt{w:ο}{B:Nat}{rest:ByteArray}{sh:Bool}(h:RD w B rest sh):B<w.heap.size:=(XS.1 h).1
theorem RD.later{w w':ο}{B:Nat}{rest:ByteArray}{sh:Bool}(h:RD w B rest sh)(hb:υ w.heap.size w w'):RD w' B rest sh:=(hb.block B h.lt).trans h
def Is(r:ByteArray)(n:Nat):ByteArray:=if r.size<n then ⟨#[]⟩ else r.extract 0 n
def LM(r:ByteArray)(n:Nat):ByteArray:=if r.size<n then ⟨#[]⟩ else r.extract n r.size
theorem LV(r:ByteArray)(n:Nat):(Is r n).size<=n:=by
 unfold Is;split
 · exact XZ _
 · rw [ByteArray.size_extract];omega
theorem NH(B:Nat)(r:ByteArray)(sh:Bool)(n:Nat)(w:ο)(h:RD w B r sh)(hn:n<=1048576) :
 XR μ 139 #[ψ (ς ⟨B,0,ν⟩),ι κ n] w λe w'=>e=ρ (τ (Is r n))/\RD w' B (LM r n) (sh || decide (r.size<n))/\w.grownBy w' (ς B):=by
 have h':=h;unfold RD at h';have c0:w.cell? ⟨B,0,ν⟩=ς (τ r):=(ε _ _ 0 _ _ _ h').trans rfl;have c1:w.cell? ⟨B,1,ν⟩=ς (β sh):=(ε _ _ 1 _ _ _ h').trans rfl;have f0:w.frozen? ⟨B,0,ν⟩=false:=ζ _ _ 0 _ _ h';have f1:w.frozen? ⟨B,1,ν⟩=false:=ζ _ _ 1 _ _ h';have HH:Hid (w.heap[B]?=ς (γ #[τ r,β sh] 110 (0,0))):=h';clear h' h;by_cases hl:r.size<n
 ·
  have hl':(r.size:Int)<(n:Int):=by omega
  have HT:Hid (Is r n=⟨#[]⟩):=by show _=_;unfold Is;rw [if_pos hl]
  have HD:Hid (LM r n=⟨#[]⟩):=by show _=_;unfold LM;rw [if_pos hl]
  go_enter Tryz.func139,Tryz.ntmps139
  go_wp2;go_ret
  refine⟨by rw [HT.out];rfl,?_,AQ (A8 _ _ _ _) (A8 _ _ _ _)⟩;rw [HD.out,decide_eq_true hl,Bool.or_true];exact π _ _ 1 _ _ _ (π _ _ 0 _ _ _ HH.out)
 ·
  have hl':¬(r.size:Int)<(n:Int):=by omega
  have i1:(0:Int)<=(n:Int):=by omega
  have i2:(n:Int)<=(r.size:Int):=by omega
  have HT:Hid (Is r n=r.extract 0 n):=by show _=_;unfold Is;rw [if_neg hl]
  have HD:Hid (LM r n=r.extract n r.size):=by show _=_;unfold LM;rw [if_neg hl]
  go_enter Tryz.func139,Tryz.ntmps139
  go_wp2;go_ret
  refine⟨by rw [HT.out];rfl,?_,A8 _ _ _ _⟩;rw [HD.out];exact π _ _ 0 _ _ _ HH.out
def GA(s:ByteArray)(j:Nat):Nat:=if h:j<s.size then s[j].toNat else 0
def LH(s:ByteArray):Nat->Nat
 | 0=>0
 | j+1=>LH s j * 256+GA s j
theorem Hr(s:ByteArray)(j:Nat):GA s j<256:=by
 unfold GA;split
 · exact UInt8.toNat_lt _
 · omega
theorem Ny(s:ByteArray):∀ j,LH s j<256 ^ j
 | 0=>by simp [LH]
 | j+1=>by
  have h1:=Ny s j;have h2:=Hr s j;rw [LH,Nat.pow_succ];omega
theorem Mw(x y:Int)(hx₀:0<=x)(hx:x % 2 ^ 8=0)(hx₁:x<2 ^ 64)(hy₀:0<=y)(hy:y<2 ^ 8):bits .or .u64 x y=x+y:=
 bits_join .u64 64 (by decide) (λn h0 h1=>by rw [IntKind.wrap_u64];omega) 8 x y hx₀ hx hx₁ hy₀ hy (by omega)
theorem N4(w:ο):υ w.heap.size w w.drew:=⟨rfl,rfl,rfl,XK _,λ_ _=>rfl⟩
theorem QC(s:ByteArray):∃ f:ο->Nat×ο,∀ v:ο,(convert 9 183 (τ s)).run μ v=.ok (σ (ς ⟨v.heap.size,0,ν⟩) s.size (f v).1) (f v).2/\υ v.heap.size v (f v).2/\∀ j,j<s.size->(f v).2.cell? ⟨v.heap.size,j,ν⟩=ς (ι .u8 (GA s j:Nat)):=
 ⟨λv=>(grownCap v s.size 0 5,v.drew.alloc (γ (bytesRow s (grownCap v s.size 0 5)) 5 ((bytesRow s (grownCap v s.size 0 5)).size,(bytesRow s (grownCap v s.size 0 5)).size+1))),λv=>⟨run_bytes_of_string v 9 183 5 s Tryz.underlying9 Tryz.underlying183 Tryz.underlying5,AA (N4 v) (AE _ _),λj hj=>by
  have:=(ε _ _ j _ _ _ (η v.drew (γ (bytesRow s (grownCap v s.size 0 5)) 5 ((bytesRow s (grownCap v s.size 0 5)).size,(bytesRow s (grownCap v s.size 0 5)).size+1)))).trans (bytesRow_at s (grownCap v s.size 0 5) j hj);rw [show GA s j=s.data[j].toNat by unfold GA;rw [dif_pos hj];rfl];exact this⟩⟩
theorem Vn(B:Nat)(r:ByteArray)(sh:Bool)(k:Nat)(w:ο)(h:RD w B r sh)(hk:k<=8) :
 XR μ 85 #[ψ (ς ⟨B,0,ν⟩),ι κ k] w λe w'=>e=ρ (ι κ (wrap64 (LH (Is r k) (Is r k).size:Nat)))/\RD w' B (LM r k) (sh || decide (r.size<k))/\w.grownBy w' (ς B):=by
 have hz:=LV r k;have hT:=NH B r sh k w h (by omega);obtain⟨s,hs⟩:∃ s,Is r k=s:=⟨_,rfl⟩;rw [hs] at hz hT ⊢;clear hs;obtain⟨f,hf⟩:=QC s;have HF:Hid (∀ v:ο,υ v.heap.size v (f v).2/\∀ j,j<s.size->(f v).2.cell? ⟨v.heap.size,j,ν⟩=ς (ι .u8 (GA s j:Nat))):=λv=>(hf v).2;have hcv:=λv=>(hf v).1;clear hf;go_enter Tryz.func85,Tryz.ntmps85
 go_wp2_with (go_at_call 139;refine hT.mono ?_;rintro e w1 ⟨rfl,hR1,hg1⟩)
 clear hcv;obtain⟨hb2,hc⟩:=HF.out w1;have HC:Hid (∀ j,j<s.size->(f w1).2.cell? ⟨w1.heap.size,j,ν⟩=ς (ι .u8 (GA s j:Nat))):=hc;clear hc HF;go_loop [5,7,13] (λx _ i=>∃ j:Nat,j<=s.size/\i=ι κ j/\x=ι .u64 (LH s j:Nat)) (λ_ _ i=>s.size - (XX i).toNat)
 case atStart=>exact⟨0,by omega,rfl,rfl⟩
 case round=>
  obtain⟨j,hj,rfl,rfl⟩:=hrel;by_cases hlt:j<s.size
  ·
   have hc:=HC.out j hlt;have h1:=Ny s j;have h2:=Hr s j;have h3:256 ^ j<=256 ^ 7:=Nat.pow_le_pow_right (by omega) (by omega);have h4:(256:Nat) ^ 7=72057594037927936:=by decide
   have HB:Hid (LH s (j+1)=LH s j * 256+GA s j):=rfl;obtain⟨x,hx⟩:∃ x,LH s j=x:=⟨_,rfl⟩;obtain⟨y,hy⟩:∃ y,GA s j=y:=⟨_,rfl⟩;rw [hx] at h1 HB ⊢;rw [hy] at h2 hc HB;have o1:bits .or .u64 ((x:Int) * 256) (y:Int)=(x:Int) * 256+y:=Mw _ _ (by omega) (by omega) (by omega) (by omega) (by omega);have o2:IntKind.u64.wrap ((x:Int) * 256)=(x:Int) * 256:=by rw [IntKind.wrap_u64];omega
   have o3:IntKind.u64.wrap (y:Int)=(y:Int):=by rw [IntKind.wrap_u64];omega
   clear hx hy h3 h4;go_wp2;go_round
   case rel=>exact⟨j+1,by omega,by go_num,by rw [HB.out];go_num⟩
   case measure=>simp [XX];omega
  ·
   obtain rfl:j=s.size:=by omega
   go_wp2;go_ret
   exact⟨rfl,hR1.later hb2,AQ hg1 (BK hb2 _)⟩
abbrev Sw:Oper:=⟨ς 5,.move (δ 0),86,"l4_stm.go:198",#[],ν⟩
abbrev Su:Oper:=⟨ς 6,.nilCheck (δ 5),0,"l4_stm.go:198",#[⟨0,φ⟩],ν⟩
abbrev Ss:Oper:=⟨ς 7,.fieldAddr 88 (δ 6) 1,0,"l4_stm.go:198",#[⟨1,φ⟩],ν⟩
abbrev Sr:Oper:=⟨ς 8,.load 3 (δ 7),3,"l4_stm.go:198",#[⟨2,φ⟩],ν⟩
abbrev Sq:Oper:=⟨ς 9,.binOp .lss 3 (δ 8) (.const (ι κ 0)) 3,4,"l4_stm.go:198",#[⟨3,φ⟩],ν⟩
abbrev Sp:Oper:=⟨ς 10,.move (δ 9),4,"l4_stm.go:198",#[⟨4,φ⟩],ν⟩
abbrev So:Oper:=⟨ς 11,.move (δ 0),86,"l4_stm.go:198",#[⟨5,.guard⟩],ς (5,false)⟩
abbrev Sn:Oper:=⟨ς 12,.nilCheck (δ 11),0,"l4_stm.go:198",#[⟨6,φ⟩,⟨5,.guard⟩],ς (5,false)⟩
abbrev Sm:Oper:=⟨ς 13,.fieldAddr 88 (δ 12) 1,0,"l4_stm.go:198",#[⟨7,φ⟩,⟨5,.guard⟩],ς (5,false)⟩
abbrev Sj:Oper:=⟨ς 14,.load 3 (δ 13),3,"l4_stm.go:198",#[⟨8,φ⟩,⟨5,.guard⟩],ς (5,false)⟩
abbrev Mr:Oper:=⟨ς 15,.move (δ 1),3,"l4_stm.go:198",#[⟨5,.guard⟩],ς (5,false)⟩
abbrev Mq:Oper:=⟨ς 16,.binOp .add 3 (δ 14) (δ 15) 3,3,"l4_stm.go:198",#[⟨9,φ⟩,⟨10,φ⟩,⟨5,.guard⟩],ς (5,false)⟩
abbrev Mp:Oper:=⟨ς 17,.move (δ 0),86,"l4_stm.go:198",#[⟨5,.guard⟩],ς (5,false)⟩
abbrev Mo:Oper:=⟨ς 18,.nilCheck (δ 17),0,"l4_stm.go:198",#[⟨12,φ⟩,⟨5,.guard⟩],ς (5,false)⟩
abbrev Mn:Oper:=⟨ς 19,.fieldAddr 88 (δ 18) 0,0,"l4_stm.go:198",#[⟨13,φ⟩,⟨5,.guard⟩],ς (5,false)⟩
abbrev Mm:Oper:=⟨ς 20,.load 9 (δ 19),9,"l4_stm.go:198",#[⟨14,φ⟩,⟨5,.guard⟩],ς (5,false)⟩
abbrev Ml:Oper:=⟨ς 21,.call ⟨.builtin .len,#[δ 20],#[9]⟩,3,"l4_stm.go:198",#[⟨15,φ⟩,⟨5,.guard⟩],ς (5,false)⟩
abbrev Mj:Oper:=⟨ς 22,.binOp .gtr 3 (δ 16) (δ 21) 3,4,"l4_stm.go:198",#[⟨11,φ⟩,⟨16,φ⟩,⟨5,.guard⟩],ς (5,false)⟩
abbrev Mi:Oper:=⟨ς 23,.pick (δ 10) (.const (β true)) (δ 22),4,"l4_stm.go:198",#[⟨5,φ⟩,⟨17,φ⟩],ν⟩
theorem Bc(w:ο):υ w.heap.size w w.drew:=⟨rfl,rfl,rfl,XK _,λ_ _=>rfl⟩
def Hq(s:ByteArray)(a:Nat):Nat->Nat
 | 0=>0
 | j+1=>Hq s a j * 256+GA s (a+j)
theorem Kh(x y:Int):wrap64 (wrap64 (wrap64 x * 256)+y)=wrap64 (x * 256+y):=by
 unfold wrap64;omega
theorem Wc(s:ByteArray)(a n:Nat)(w:ο)(hs:s.size<=1048576)(hn:n<=8)(h:a+n<=s.size):XR μ 66 #[τ s,ι κ a,ι κ n] w λe w'=>e=ρ (ι κ (wrap64 (Hq s a n:Nat)))/\w'=w:=by
 go_enter Tryz.func66,Tryz.ntmps66
 go_wp2;go_loop [7,8] (λx i=>∃ j:Nat,j<=n/\i=ι κ j/\x=ι κ (wrap64 (Hq s a j:Nat))) (λ_ i=>n - (XX i).toNat)
 case atStart=>exact⟨0,by omega,rfl,by simp [Hq,wrap64]⟩
 case round=>
  obtain⟨j,hj,rfl,rfl⟩:=hrel;by_cases hlt:j<n
  ·
   have hi:a+j<s.size:=by omega
   have h2:=Hr s (a+j);have e8:GA s (a+j)=s[a+j].toNat:=by unfold GA;rw [dif_pos hi]
   have HB:Hid (Hq s a (j+1)=Hq s a j * 256+GA s (a+j)):=rfl;have HW:=Kh (Hq s a j:Nat) (GA s (a+j):Nat);have HWW:Hid (wrap64 (wrap64 (wrap64 ((Hq s a j:Nat):Int) * 256)+((GA s (a+j):Nat):Int))=wrap64 (((Hq s a j:Nat):Int) * 256+((GA s (a+j):Nat):Int))):=HW;clear HW;rw [e8] at HB HWW h2;clear e8;have hw8:=W6 s[a+j];go_wp2;go_round
   case rel=>exact⟨j+1,by omega,by go_num,by rw [HWW.out,HB.out];simp⟩
   case measure=>simp [XX];omega
  ·
   obtain rfl:j=n:=by omega
   go_wp2;go_ret
   exact⟨rfl,rfl⟩
def BL(w:ο)(B:Nat)(s:ByteArray)(a:Int):Prop:=w.heap[B]?=ς (γ #[τ s,ι κ a] 88 (0,0))
theorem BL.lt{w:ο}{B:Nat}{s:ByteArray}{a:Int}(h:BL w B s a):B<w.heap.size:=(XS.1 h).1
theorem BL.later{w w':ο}{B:Nat}{s:ByteArray}{a:Int}(h:BL w B s a)(hb:υ w.heap.size w w'):BL w' B s a:=(hb.block B h.lt).trans h
theorem BL.set{w:ο}{B:Nat}{s:ByteArray}{a:Int}(h:BL w B s a)(a':Int):BL (w.setCell ⟨B,1,ν⟩ (ι κ a')) B s a':=π _ _ 1 _ _ _ h
theorem BL.c0{w:ο}{B:Nat}{s:ByteArray}{a:Int}(h:BL w B s a):w.cell? ⟨B,0,ν⟩=ς (τ s):=(ε _ _ 0 _ _ _ h).trans rfl
theorem BL.c1{w:ο}{B:Nat}{s:ByteArray}{a:Int}(h:BL w B s a):w.cell? ⟨B,1,ν⟩=ς (ι κ a):=(ε _ _ 1 _ _ _ h).trans rfl
theorem BL.f1{w:ο}{B:Nat}{s:ByteArray}{a:Int}(h:BL w B s a):w.frozen? ⟨B,1,ν⟩=false:=ζ _ _ 1 _ _ h
theorem TW(w:ο)(r:Option Nat):w.grownBy w.drew r:=BK (Bc w) r
theorem Oa(B:Nat)(s:ByteArray)(n:Nat)(w:ο)(h:BL w B s (-1)):XR μ 40 #[ψ (ς ⟨B,0,ν⟩),ι κ n] w λe w'=>e=ρ (ι κ 0)/\BL w' B s (-1)/\w.grownBy w' (ς B):=by
 have c0:=h.c0;have c1:=h.c1;have d1:w.drew.cell? ⟨B,1,ν⟩=ς (ι κ (-1)):=c1;have g1:w.drew.frozen? ⟨B,1,ν⟩=false:=h.f1;have HH:Hid (BL w.drew B s (-1)):=h;clear h;go_enter Tryz.func40,Tryz.ntmps40
 go_wp2;refine XO (S:=λx=>υ w.heap.size w x) (by kernel_rfl) (Bc _) (λjH=>?_);refine tk 0 Sw (λx jS=>by go_simp<;>rfl) jH ?_
 try simp only [zS]
 refine tk 1 Su (λx jS=>by go_simp<;>rfl) jH ?_
 try simp only [zS]
 refine tk 2 Ss (λx jS=>by go_simp<;>rfl) jH ?_
 try simp only [zS]
 refine tk 3 Sr (λx jS=>by have k0:=AB jS c0;have k1:=AB jS c1;go_simp<;>rfl) jH ?_
 try simp only [zS]
 refine tk 4 Sq (λx jS=>by go_simp<;>rfl) jH ?_
 try simp only [zS]
 refine tk 5 Sp (λx jS=>by go_simp<;>rfl) jH ?_
 try simp only [zS]
 refine Ao 6 So jH ?_;try simp only [zS]
 refine Ao 7 Sn jH ?_;try simp only [zS]
 refine Ao 8 Sm jH ?_;try simp only [zS]
 refine Ao 9 Sj jH ?_;try simp only [zS]
 refine Ao 10 Mr jH ?_;try simp only [zS]
 refine Ao 11 Mq jH ?_;try simp only [zS]
 refine Ao 12 Mp jH ?_;try simp only [zS]
 refine Ao 13 Mo jH ?_;try simp only [zS]
 refine Ao 14 Mn jH ?_;try simp only [zS]
 refine Ao 15 Mm jH ?_;try simp only [zS]
 refine Ao 16 Ml jH ?_;try simp only [zS]
 refine Ao 17 Mj jH ?_;try simp only [zS]
 refine tk 18 Mi (λx jS=>by go_simp<;>rfl) jH ?_
 try simp only [zS]
 refine XW (by kernel_rfl) ?_ _;go_wp2;go_ret
 exact⟨rfl,HH.out.set _,AQ (TW w _) (A8 _ _ _ _)⟩
theorem Kn(B:Nat)(s:ByteArray)(a' n:Nat)(w:ο)(h:BL w B s (a':Nat))(hs:s.size<=1048576)(ha:a'<=1048576)(hn:n<=8)(hl:s.size<a'+n):XR μ 40 #[ψ (ς ⟨B,0,ν⟩),ι κ n] w λe w'=>e=ρ (ι κ 0)/\BL w' B s (-1)/\w.grownBy w' (ς B):=by
 have c0:=h.c0;have c1:=h.c1;have d1:w.drew.cell? ⟨B,1,ν⟩=ς (ι κ (a':Nat)):=c1;have g1:w.drew.frozen? ⟨B,1,ν⟩=false:=h.f1;have HH:Hid (BL w.drew B s (a':Nat)):=h;clear h;have i1:¬(a':Int)<0:=by omega
 have i2:IntKind.i64.wrap ((a':Int)+n)=(a':Int)+n:=by rw [IntKind.wrap_i64];omega
 have i3:(s.size:Int)<(a':Int)+n:=by omega
 go_enter Tryz.func40,Tryz.ntmps40
 go_wp2;refine XO (S:=λx=>υ w.heap.size w x) (by kernel_rfl) (Bc _) (λjH=>?_);refine tk 0 Sw (λx jS=>by go_simp<;>rfl) jH ?_
 try simp only [zS]
 refine tk 1 Su (λx jS=>by go_simp<;>rfl) jH ?_
 try simp only [zS]
 refine tk 2 Ss (λx jS=>by go_simp<;>rfl) jH ?_
 try simp only [zS]
 refine tk 3 Sr (λx jS=>by have k0:=AB jS c0;have k1:=AB jS c1;go_simp<;>rfl) jH ?_
 try simp only [zS]
 refine tk 4 Sq (λx jS=>by go_simp<;>rfl) jH ?_
 try simp only [zS]
 refine tk 5 Sp (λx jS=>by go_simp<;>rfl) jH ?_
 try simp only [zS]
 refine tk 6 So (λx jS=>by go_simp<;>rfl) jH ?_
 try simp only [zS]
 refine tk 7 Sn (λx jS=>by go_simp<;>rfl) jH ?_
 try simp only [zS]
 refine tk 8 Sm (λx jS=>by go_simp<;>rfl) jH ?_
 try simp only [zS]
 refine tk 9 Sj (λx jS=>by have k0:=AB jS c0;have k1:=AB jS c1;go_simp<;>rfl) jH ?_
 try simp only [zS]
 refine tk 10 Mr (λx jS=>by go_simp<;>rfl) jH ?_
 try simp only [zS]
 refine tk 11 Mq (v:=ι κ ((a':Int)+n)) (λx jS=>by go_simp<;>rfl) jH ?_
 try simp only [zS]
 refine tk 12 Mp (λx jS=>by go_simp<;>rfl) jH ?_
 try simp only [zS]
 refine tk 13 Mo (λx jS=>by go_simp<;>rfl) jH ?_
 try simp only [zS]
 refine tk 14 Mn (λx jS=>by go_simp<;>rfl) jH ?_
 try simp only [zS]
 refine tk 15 Mm (λx jS=>by have k0:=AB jS c0;have k1:=AB jS c1;go_simp<;>rfl) jH ?_
 try simp only [zS]
 refine tk 16 Ml (λx jS=>by go_simp<;>rfl) jH ?_
 try simp only [zS]
 refine tk 17 Mj (λx jS=>by go_simp<;>rfl) jH ?_
 try simp only [zS]
 refine tk 18 Mi (λx jS=>by go_simp<;>rfl) jH ?_
 try simp only [zS]
 refine XW (by kernel_rfl) ?_ _;go_wp2;go_ret
 exact⟨rfl,HH.out.set _,AQ (TW w _) (A8 _ _ _ _)⟩
theorem Ru(B:Nat)(s:ByteArray)(a' n:Nat)(w:ο)(h:BL w B s (a':Nat))(hs:s.size<=1048576)(hn:n<=8)(hl:a'+n<=s.size):XR μ 40 #[ψ (ς ⟨B,0,ν⟩),ι κ n] w λe w'=>e=ρ (ι κ (wrap64 (Hq s a' n:Nat)))/\BL w' B s ((a'+n:Nat):Int)/\w.grownBy w' (ς B):=by
 have c0:=h.c0;have c1:=h.c1;have d1:w.drew.cell? ⟨B,1,ν⟩=ς (ι κ (a':Nat)):=c1;have g1:w.drew.frozen? ⟨B,1,ν⟩=false:=h.f1;have HH:BL w.drew B s (a':Nat):=h;have HX:Hid (BL (w.drew.setCell ⟨B,1,ν⟩ (ι κ ((a':Int)+n))) B s ((a':Int)+n)):=HH.set _;have e0:=HX.out.c0;have e1:=HX.out.c1;clear h HH;have i1:¬(a':Int)<0:=by omega
 have i2:IntKind.i64.wrap ((a':Int)+n)=(a':Int)+n:=by rw [IntKind.wrap_i64];omega
 have i4:wrap64 ((a':Int)+n)=(a':Int)+n:=by unfold wrap64;omega
 have i3:¬(s.size:Int)<(a':Int)+n:=by omega
 have i5:IntKind.i64.wrap (a':Int)=(a':Int):=by rw [IntKind.wrap_i64];omega
 go_enter Tryz.func40,Tryz.ntmps40
 go_wp2;refine XO (S:=λx=>υ w.heap.size w x) (by kernel_rfl) (Bc _) (λjH=>?_);refine tk 0 Sw (λx jS=>by go_simp<;>rfl) jH ?_
 try simp only [zS]
 refine tk 1 Su (λx jS=>by go_simp<;>rfl) jH ?_
 try simp only [zS]
 refine tk 2 Ss (λx jS=>by go_simp<;>rfl) jH ?_
 try simp only [zS]
 refine tk 3 Sr (λx jS=>by have k0:=AB jS c0;have k1:=AB jS c1;go_simp<;>rfl) jH ?_
 try simp only [zS]
 refine tk 4 Sq (λx jS=>by go_simp<;>rfl) jH ?_
 try simp only [zS]
 refine tk 5 Sp (λx jS=>by go_simp<;>rfl) jH ?_
 try simp only [zS]
 refine tk 6 So (λx jS=>by go_simp<;>rfl) jH ?_
 try simp only [zS]
 refine tk 7 Sn (λx jS=>by go_simp<;>rfl) jH ?_
 try simp only [zS]
 refine tk 8 Sm (λx jS=>by go_simp<;>rfl) jH ?_
 try simp only [zS]
 refine tk 9 Sj (λx jS=>by have k0:=AB jS c0;have k1:=AB jS c1;go_simp<;>rfl) jH ?_
 try simp only [zS]
 refine tk 10 Mr (λx jS=>by go_simp<;>rfl) jH ?_
 try simp only [zS]
 refine tk 11 Mq (v:=ι κ ((a':Int)+n)) (λx jS=>by go_simp<;>rfl) jH ?_
 try simp only [zS]
 refine tk 12 Mp (λx jS=>by go_simp<;>rfl) jH ?_
 try simp only [zS]
 refine tk 13 Mo (λx jS=>by go_simp<;>rfl) jH ?_
 try simp only [zS]
 refine tk 14 Mn (λx jS=>by go_simp<;>rfl) jH ?_
 try simp only [zS]
 refine tk 15 Mm (λx jS=>by have k0:=AB jS c0;have k1:=AB jS c1;go_simp<;>rfl) jH ?_
 try simp only [zS]
 refine tk 16 Ml (λx jS=>by go_simp<;>rfl) jH ?_
 try simp only [zS]
 refine tk 17 Mj (λx jS=>by go_simp<;>rfl) jH ?_
 try simp only [zS]
 refine tk 18 Mi (λx jS=>by go_simp<;>rfl) jH ?_
 try simp only [zS]
 refine XW (by kernel_rfl) ?_ _;go_wp2;refine XO (S:=λx=>υ (w.drew.setCell ⟨B,1,ν⟩ (ι κ ((a':Int)+n))).heap.size (w.drew.setCell ⟨B,1,ν⟩ (ι κ ((a':Int)+n))) x) (by kernel_rfl) (Bc _) (λjH=>?_);refine tk 0 (⟨ς 35,.move (δ 0),86,"l4_stm.go:203",#[],ν⟩:Oper) (λx jS=>by go_simp<;>rfl) jH ?_
 try simp only [zS]
 refine tk 1 (⟨ς 36,.nilCheck (δ 35),0,"l4_stm.go:203",#[⟨0,φ⟩],ν⟩:Oper) (λx jS=>by go_simp<;>rfl) jH ?_
 try simp only [zS]
 refine tk 2 (⟨ς 37,.fieldAddr 88 (δ 36) 0,0,"l4_stm.go:203",#[⟨1,φ⟩],ν⟩:Oper) (λx jS=>by go_simp<;>rfl) jH ?_
 try simp only [zS]
 refine tk 3 (⟨ς 38,.load 9 (δ 37),9,"l4_stm.go:203",#[⟨2,φ⟩],ν⟩:Oper) (λx jS=>by have k0:=AB jS e0;have k1:=AB jS e1;go_simp<;>rfl) jH ?_
 try simp only [zS]
 refine tk 4 (⟨ς 39,.move (δ 0),86,"l4_stm.go:203",#[],ν⟩:Oper) (λx jS=>by go_simp<;>rfl) jH ?_
 try simp only [zS]
 refine tk 5 (⟨ς 40,.nilCheck (δ 39),0,"l4_stm.go:203",#[⟨4,φ⟩],ν⟩:Oper) (λx jS=>by go_simp<;>rfl) jH ?_
 try simp only [zS]
 refine tk 6 (⟨ς 41,.fieldAddr 88 (δ 40) 1,0,"l4_stm.go:203",#[⟨5,φ⟩],ν⟩:Oper) (λx jS=>by go_simp<;>rfl) jH ?_
 try simp only [zS]
 refine tk 7 (⟨ς 42,.load 3 (δ 41),3,"l4_stm.go:203",#[⟨6,φ⟩],ν⟩:Oper) (λx jS=>by have k0:=AB jS e0;have k1:=AB jS e1;go_simp<;>rfl) jH ?_
 try simp only [zS]
 refine tk 8 (⟨ς 43,.move (δ 1),3,"l4_stm.go:203",#[],ν⟩:Oper) (λx jS=>by go_simp<;>rfl) jH ?_
 try simp only [zS]
 refine tk 9 (⟨ς 44,.binOp .sub 3 (δ 42) (δ 43) 3,3,"l4_stm.go:203",#[⟨7,φ⟩,⟨8,φ⟩],ν⟩:Oper) (v:=ι κ (a':Int)) (λx jS=>by go_simp<;>rfl) jH ?_
 try simp only [zS]
 refine tk 10 (⟨ς 45,.move (δ 1),3,"l4_stm.go:203",#[],ν⟩:Oper) (λx jS=>by go_simp<;>rfl) jH ?_
 try simp only [zS]
 refine rd 11 (⟨ς 46,.call ⟨.value (.func 66),#[δ 38,δ 44,δ 45],#[9,3,3]⟩,3,"l4_stm.go:203",#[⟨3,φ⟩,⟨9,φ⟩,⟨10,φ⟩],ν⟩:Oper) (λK hK=>?_);go_simp;refine(Wc s a' n _ hs hn hl).mono ?_;rintro e w5 ⟨rfl,rfl⟩;refine hK.out _ _ (jH) (λjH=>?_);clear hK K;try simp only [zS]
 refine tk 12 (⟨ς 4,.assign (δ 46),3,"l4_stm.go:203",#[⟨11,φ⟩,⟨11,.chain⟩,⟨0,ξ⟩,⟨1,ξ⟩,⟨2,ξ⟩,⟨3,ξ⟩,⟨4,ξ⟩,⟨5,ξ⟩,⟨6,ξ⟩,⟨7,ξ⟩,⟨8,ξ⟩,⟨9,ξ⟩,⟨10,ξ⟩,⟨11,ξ⟩],ν⟩:Oper) (λx jS=>by go_simp<;>rfl) jH ?_
 try simp only [zS]
 refine XW (by kernel_rfl) ?_ _;go_wp2;go_ret
 exact⟨rfl,by rw [Int.natCast_add];exact HX.out.later jH,AQ (AQ (TW w _) (A8 _ _ _ _)) (BK jH _)⟩
