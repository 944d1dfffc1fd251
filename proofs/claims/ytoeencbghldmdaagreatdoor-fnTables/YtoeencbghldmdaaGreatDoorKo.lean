import Derived.Test.YtoeencbghldmdaaGreatDoorJp
import Derived.Deep.Slices
import Derived.Test.YtoeencbghldmdaaGreatDoorJm
import Derived.Test.YtoeencbghldmdaaGreatDoorUf
import Derived.Test.YtoeencbghldmdaaGreatDoorEa
import Derived.Test.YtoeencbghldmdaaGreatDoorCb
import Derived.Test.YtoeencbghldmdaaGreatDoorXg
import Derived.Test.YtoeencbghldmdaaGreatDoorVd
open Bool renaming and_eq_true → VO
open Go renaming Calls → VK, World → ο, Value → VN, cell_of_row → ε, heap_alloc_new → η, wpList_append_lies → VR, bodyPost_ret → VE, frozen_of_row → ζ
open Go.Ending renaming returned → ρ
open Go.IntKind renaming i64 → κ
open Go.Obj renaming cells → γ
open Go.Proofs.Tryz renaming prog → μ
open Go.RowKit renaming Below → υ, intOf → VQ
open Go.Value renaming agg → χ, int → ι, slice → σ, string → τ, pointer → ψ, tuple → θ
open Go.World renaming news_of_block → VI
open List renaming length_append → VJ
open Nat renaming le_refl → VD, le_trans → VX, not_lt_zero → Vc, zero_add → VM, zero_le → VS
open Option renaming none → ν, some → ς
open Option.some renaming inj → VF
open Or renaming inl → VV, inr → Vb
namespace Go.Proofs.YtoeencbghldmdaaGreatDoor
open Go.RowKit Go.Deep
set_option maxRecDepth 20000
theorem Ts{w:ο}{a:Option Addr}{n:Nat}(h:Co w a n):∃ C:Nat->Clm,CL w a n C/\∀ k,k<n->BI (C k).s (C k).t=true:=by
 obtain⟨C,hC⟩:=@choose_lt Clm ⟨⟨⟨#[]⟩,0⟩⟩ n (λk c=>(∃ b off,a=ς ⟨b,off,ν⟩/\w.cell? ⟨b,off+k * 2,ν⟩=ς (τ c.s)/\w.cell? ⟨b,off+k * 2+1,ν⟩=ς (ι κ c.t))/\BI c.s c.t=true) (λk hk=>by
  obtain⟨b,off,m,s,e,h0,h1,hs⟩:=h k hk;exact⟨⟨s,m⟩,⟨b,off,e,h0,h1⟩,hs⟩)
 refine⟨C,λk hk=>?_,λk hk=>(hC k hk).2⟩;obtain⟨⟨b,off,e,h0,h1⟩,hs⟩:=hC k hk;refine⟨b,off,e,h0,h1,?_⟩;simp only [BI,VO] at hs
 have:=Bb hs.1;omega
theorem S6{w:ο}{a:Option Addr}{n:Nat}(h:It w a n):∃ V:Nat->Itm,IL w a n V/\∀ k,k<n->Aa (V k).o (V k).m (V k).s=true/\GK (V k).m:=by
 obtain⟨V,hV⟩:=@choose_lt Itm ⟨⟨0,0,⟨#[]⟩⟩⟩ n (λk c=>(∃ b off,a=ς ⟨b,off,ν⟩/\w.cell? ⟨b,off+k * 3,ν⟩=ς (ι κ c.o)/\w.cell? ⟨b,off+k * 3+1,ν⟩=ς (ι κ c.m)/\w.cell? ⟨b,off+k * 3+2,ν⟩=ς (τ c.s))/\Aa c.o c.m c.s=true/\GK c.m) (λk hk=>by
  obtain⟨b,off,o,m,s,e,h0,h1,h2,hs⟩:=h k hk;exact⟨⟨o,m,s⟩,⟨b,off,e,h0,h1,h2⟩,vR hs⟩)
 refine⟨V,λk hk=>?_,λk hk=>(hV k hk).2⟩;obtain⟨⟨b,off,e,h0,h1,h2⟩,hs⟩:=hV k hk;have:=Eh hs.1;exact⟨b,off,e,h0,h1,h2,by omega⟩
structure Rj where
 m:Nat
 I:Nat->Itm
theorem IH{I:Nat->Itm}{n:Nat}(h:AI I n=true)(h1:1<=n):AZ I n=true:=by
 simp only [AI,Bool.or_eq_true,decide_eq_true_eq] at h
 rcases h with h | h
 · omega
 · exact h
theorem Sr{w:ο}{a:Option Addr}{n:Nat}(h:Ou w a n):∃ (m:Nat->Nat) (O:Nat->Nat->Itm),OL w a n m O/\∀ k,k<n->AZ (O k) (m k)=true/\m k<=15/\∀ j,j<m k->GK (O k j).m:=by
 obtain⟨R,hR⟩:=@choose_lt Rj ⟨⟨0,λ_=>⟨0,0,⟨#[]⟩⟩⟩⟩ n (λk r=>(∃ b off i c,a=ς ⟨b,off,ν⟩/\w.cell? ⟨b,off+k,ν⟩=ς (σ i r.m c)/\IL w i r.m r.I)/\AZ r.I r.m=true/\r.m<=15/\∀ j,j<r.m->GK (r.I j).m) (λk hk=>by
  obtain⟨b,off,i,m,c,e,h0,⟨I,hi,hw,h15,hrg⟩,hm⟩:=h k hk;exact⟨⟨m,I⟩,⟨b,off,i,c,e,h0,hi⟩,IH hw hm,h15,hrg⟩)
 refine⟨λk=>(R k).m,λk=>(R k).I,λk hk=>?_,λk hk=>(hR k hk).2⟩;obtain⟨⟨b,off,i,c,e,h0,hi⟩,-,h15,-⟩:=hR k hk;exact⟨b,off,i,c,e,h0,hi,by show (R k).m<=_;omega⟩
theorem GA{I:Nat->Itm}{n:Nat}(h:AI I n=true)(hn:n<=15):(BC I n).length<=4502:=by
 have h2:=(Dd h).2;have:=CI (B:=λk=>CB (I k)) (c:=300) (n:=n) (λk hk=>Jw _ (h2 k hk));unfold BC;rw [VJ,AH];omega
theorem Mr{I:Nat->Itm}{n:Nat}(h:AZ I n=true):AI I n=true:=by simp [AI,h]
theorem Ic{D:St}(h:AK D=true)(h5:AI D.E D.n5=true)(h5':D.n5<=15)(h6:AI D.W D.n6=true)(h6':D.n6<=15)(h7:D.n7<=3)(h7':∀ k,k<D.n7->AI (D.O k) (D.m7 k)=true/\D.m7 k<=15):1<=(CT D).size/\(CT D).size<=60000:=by
 have e5:=GA h5 h5';have e6:=GA h6 h6';have htb:=DN h;have hl:(DI D).length<=60000:=by
  unfold DI;rw [VJ,VJ,AH,BP];have ht:(GI D).length<=40000:=by
   rcases Lh h with e | e | e | e | e
   · obtain⟨a,b⟩:=UX h e;have:=CI (B:=λj=>DX (D.C j)) (c:=100) (n:=D.n2) (λj hj=>by have:=b j hj;simp [DX,BP,AH];omega);unfold GI;rw [if_pos e,VJ,AH];omega
   ·
    obtain⟨a,b⟩:=UW h e;have:=CI (B:=λj=>Bo (D.V j)) (c:=300) (n:=D.n3) (λj hj=>by
     have:=b j hj;unfold Bo;rw [VJ,AH];split
     · rw [AH];omega
     · rw [EI];omega)
    unfold GI;rw [if_neg (by omega),if_pos e,VJ,AH];omega
   · obtain⟨a,-⟩:=UV h e;unfold GI;rw [if_neg (by omega),if_neg (by omega),if_pos e,VJ,VJ,BP];omega
   · unfold GI;rw [if_neg (by omega),if_neg (by omega),if_neg (by omega),if_pos e];omega
   · have:=CI (B:=λj=>BC (D.O j) (D.m7 j)) (c:=4502) (n:=D.n7) (λj hj=>GA (h7' j hj).1 (h7' j hj).2);unfold GI;rw [if_neg (by omega),if_neg (by omega),if_neg (by omega),if_neg (by omega),VJ,VJ,AH];omega
  omega
 have hs:(bs (DI D)).size=(DI D).length:=AV _;have e:CT D=bs (DI D):=E1 h rfl (by omega);rw [e,hs];refine⟨?_,hl⟩;unfold DI;rw [VJ,VJ,AH];omega
def T2(k:Int)(tb T:ByteArray):Prop:=∃ d:St,CT d=T/\RG d/\d.k=k/\d.tb=tb/\1<=T.size/\T.size<=60000
theorem Qn(p:SP)(w:ο)(h:Sm w p)(hs:M8 p):VK μ 17 #[χ p.cs] w λe w'=>(∃ T:ByteArray,e=ρ (τ T)/\T2 p.k p.tb T)/\υ w.heap.size w w':=by
 obtain⟨C,hC,hC'⟩:=Ts h.co;obtain⟨V,hV,hV'⟩:=S6 h.va;obtain⟨E,hE,hE',hE5,hEr⟩:=h.ex;obtain⟨W,hW,hW',hW6,hWr⟩:=h.wh;obtain⟨m7,O,hO,hO'⟩:=Sr h.ou;have htb:=Bb h.tb;have hcol:p.col.size<=30:=by
  rcases h.col with e | e
  · omega
  · exact Bb e
 have hl2:=h.l2;have hl3:=h.l3;have hl7:=h.l7;have hM:SM w ⟨p.k,p.tb,p.n2,C,p.n3,V,p.col,p.n5,E,p.n6,W,p.n7,m7,O⟩ ⟨p.a2,p.c2,p.a3,p.c3,p.a5,p.c5,p.a6,p.c6,p.a7,p.c7⟩:=⟨by show p.tb.size<=_;omega,by show p.col.size<=_;omega,hC,hV,hE,hW,hO,by show p.n2<=_;omega,by show p.n3<=_;omega,by show p.n5<=_;omega,by show p.n6<=_;omega,by show p.n7<=_;omega⟩;obtain⟨D,hD⟩:∃ D:St,D=⟨p.k,p.tb,p.n2,C,p.n3,V,p.col,p.n5,E,p.n6,W,p.n7,m7,O⟩:=⟨_,rfl⟩;have ok:AK D=true:=by
  rcases hs with ⟨k1,a,b,c,d,e,f,g⟩ | ⟨k1,a,b,c,d,e,f,g⟩ | ⟨k1,a,b,c,d,e⟩ | ⟨k1,a,b,c,d,e⟩ | ⟨k1,a,b,c,d,e⟩
  ·
   rw [NP D (by rw [hD];exact k1)];subst hD;simp only [Bh,h.tb,c,d,e,f,g,Bool.true_and,VO]
   refine⟨by simp,by simp [Bn];omega,Ak λj hj=>hC' j hj⟩
  ·
   rw [PL D (by rw [hD];exact k1)];subst hD;simp only [Bh,h.tb,a,d,e,f,g,Bool.true_and,VO]
   refine⟨by simp,by simp [Bn];omega,Ak λj hj=>(hV' j hj).1⟩
  ·
   rw [PK D (by rw [hD];exact k1)];subst hD;have z:(⟨#[]⟩:ByteArray).size=0:=rfl;simp only [Bh,h.tb,a,b,c,e,z,Bool.true_and,VO]
   refine⟨by simp,IH hE' d,hW'⟩
  ·
   rw [PJ D (by rw [hD];exact k1)];subst hD;simp only [Bh,h.tb,a,b,c,d,e,Bool.true_and,VO]
   refine⟨by simp,hW'⟩
  ·
   rw [PI D (by rw [hD];exact k1)];subst hD;simp only [Bh,h.tb,a,b,c,d,Bool.true_and,VO]
   refine⟨by simp,⟨by simp [Bn];omega,Ak λj hj=>(hO' j hj).1⟩,hW'⟩
 have sml:=Ic ok (by subst hD;exact hE') (by subst hD;exact hE5) (by subst hD;exact hW') (by subst hD;exact hW6) (by subst hD;exact hl7) (λk hk=>by subst hD;exact⟨Mr (hO' k hk).1,(hO' k hk).2.1⟩);rw [hD] at sml;refine(Ks _ _ w hM).mono ?_;rintro e w' ⟨rfl,hb⟩;exact⟨⟨_,rfl,_,rfl,⟨λj hj=>(hV' j hj).2,hEr,hWr,λk hk=>(hO' k hk).2.2⟩,rfl,rfl,sml⟩,hb⟩
end Go.Proofs.YtoeencbghldmdaaGreatDoor
namespace Go.Proofs.YtoeencbghldmdaaGreatDoor
open Go.RowKit
set_option maxRecDepth 20000
set_option maxHeartbeats 4000000
def pC(tb:ByteArray)(a:Option Addr)(n c:Nat):SP:=⟨1,tb,a,n,c,ν,0,0,⟨#[]⟩,ν,0,0,ν,0,0,ν,0,0⟩
def Hc(w:ο)(a:Option Addr)(n:Nat):Prop:=∃ C:Nat->Clm,CL w a n C/\(∀ k,k<n->BI (C k).s (C k).t=true)/\DW C n=true
theorem Hc.later{w w':ο}{a:Option Addr}{n:Nat}(h:Hc w a n)(hb:υ w.heap.size w w'):Hc w' a n:=h.imp λ_ q=>⟨q.1.later hb,q.2⟩
theorem Hc.ka{x:Nat}{w w':ο}{a:Option Addr}{n:Nat}(h:Hc w a n)(hk:KA x w w')(ha:IE x a):Hc w' a n:=by
 obtain⟨C,hC,h2⟩:=h;refine⟨C,λk hkn=>?_,h2⟩;obtain⟨b,off,e,h0,h1,hs⟩:=hC k hkn;exact⟨b,off,e,hk _ _ (ha b off e) h0,hk _ _ (ha b off e) h1,hs⟩
theorem LB(w:ο)(A:Array VN)(t:TypeId)(n:Nat)(C:Nat->Clm)(h:∀ k,k<n->A[k * 2]?=ς (τ (C k).s)/\A[k * 2+1]?=ς (ι κ (C k).t)/\BI (C k).s (C k).t=true)(hd:DW C n=true):Hc (w.alloc (γ A t)) (ς ⟨w.heap.size,0,ν⟩) n:=by
 refine⟨C,λk hk=>?_,λk hk=>(h k hk).2.2,hd⟩;obtain⟨e0,e1,hs⟩:=h k hk;simp only [BI,VO] at hs
 have:=Bb hs.1;exact⟨w.heap.size,0,rfl,by rw [VM];exact(ε _ _ _ _ _ _ (η w _)).trans e0,by rw [VM];exact(ε _ _ _ _ _ _ (η w _)).trans e1,by omega⟩
theorem IJ(x:ByteArray)(w:ο):VK μ 84 #[τ x] w λe w'=>∃ n:Nat,1<=n/\n<=3/\e=ρ (σ (ς ⟨w.heap.size,0,ν⟩) n n)/\Hc w' (ς ⟨w.heap.size,0,ν⟩) n/\w.heap.size<w'.heap.size/\w.grownBy w' ν:=by
 go_enter Tryz.func84,Tryz.ntmps84
 go_wp2
 ·
  go_ret
  exact⟨3,by omega,by omega,rfl,LB w _ _ 3 (λk=>if k=0 then ⟨⟨#[105,100]⟩,1⟩ else if k=1 then ⟨⟨#[110,97,109,101]⟩,2⟩ else ⟨⟨#[110]⟩,1⟩) (λk hk=>by
   rcases k with _ | _ | _ | k
   · exact⟨rfl,rfl,by kernel_rfl⟩
   · exact⟨rfl,rfl,by kernel_rfl⟩
   · exact⟨rfl,rfl,by kernel_rfl⟩
   · omega) (by kernel_rfl),by simp,AU w _ ν⟩
 ·
  go_ret
  exact⟨2,by omega,by omega,rfl,LB w _ _ 2 (λk=>if k=0 then ⟨⟨#[107,101,121]⟩,2⟩ else ⟨⟨#[118]⟩,1⟩) (λk hk=>by
   rcases k with _ | _ | k
   · exact⟨rfl,rfl,by kernel_rfl⟩
   · exact⟨rfl,rfl,by kernel_rfl⟩
   · omega) (by kernel_rfl),by simp,AU w _ ν⟩
 ·
  go_ret
  exact⟨1,by omega,by omega,rfl,LB w _ _ 1 (λ_=>⟨⟨#[97]⟩,1⟩) (λk hk=>by
   rcases k with _ | k
   · exact⟨rfl,rfl,by kernel_rfl⟩
   · omega) (by kernel_rfl),by simp,AU w _ ν⟩
theorem OR(w:ο):VK μ 38 #[] w λe w'=>∃ (gh a1 n1 a2 n2:Nat),e=ρ (σ (ς ⟨gh,0,ν⟩) 2 2)/\w.heap.size<=gh/\w.heap.size<=a1/\w.heap.size<=a2/\n1<=3/\n2<=3/\1<=n1/\1<=n2/\Hc w' (ς ⟨a1,0,ν⟩) n1/\Hc w' (ς ⟨a2,0,ν⟩) n2/\w'.heap[gh]?=ς (γ ((pC ⟨#[116]⟩ (ς ⟨a1,0,ν⟩) n1 n1).cs ++ (pC ⟨#[117]⟩ (ς ⟨a2,0,ν⟩) n2 n2).cs) 34 (0,0))/\w.grownBy w' ν:=by
 have hone:True:=trivial;go_enter Tryz.func38,Tryz.ntmps38
 go_wp2_with (first | (go_at_call 84;have _h:=hone;refine(IJ _ _).mono ?_;rintro e w1 ⟨n1,hn11,hn13,rfl,hco1,hs1,hG1⟩;clear hone) | (go_at_call 84;refine(IJ _ _).mono ?_;rintro e w2 ⟨n2,hn21,hn23,rfl,hco2,hs2,hG2⟩))
 go_ret
 refine⟨w2.heap.size,w.heap.size,n1,w1.heap.size,n2,rfl,VX hG1.size hG2.size,VD _,hG1.size,hn13,hn23,hn11,hn21,?_,?_,?_,AQ (AQ hG1 hG2) (AU _ _ _)⟩
 · exact((hco1.later ⟨hG2.os,hG2.tape,hG2.output,hG2.size,λk hk=>hG2.block k hk (λe=>by cases e)⟩).later (AD _ _))
 · exact hco2.later (AD _ _)
 · exact η w2 _
theorem Qa{w w':ο}{r:Option Nat}(hb:υ w.heap.size w w'):w.grownBy w' r:=⟨hb.os,hb.tape,hb.output,hb.size,λk hk _=>hb.block k hk⟩
theorem Ms(p:SP)(v:VN)(w:ο)(hv:v=χ p.cs/\Sm w p/\M8 p):VK μ 17 #[v] w λe w'=>(∃ T:ByteArray,e=ρ (τ T)/\T2 p.k p.tb T)/\υ w.heap.size w w':=by
 obtain⟨rfl,h,hs⟩:=hv;exact Qn p w h hs
def EnC(tb T:ByteArray):Prop:=∃ d:St,CT d=T/\RG d/\d.k=1/\d.tb=tb/\DW d.C d.n2=true/\1<=T.size/\T.size<=60000
theorem EnC.en{tb T:ByteArray}(h:EnC tb T):T2 1 tb T:=by
 obtain⟨d,a,b,c,e,-,f⟩:=h;exact⟨d,a,b,c,e,f⟩
theorem KS(tb:ByteArray)(a:Option Addr)(n c:Nat)(v:VN)(w:ο)(hv:v=χ (pC tb a n c).cs)(ht:AM tb=true)(h:Hc w a n)(h1:1<=n)(h3:n<=20):VK μ 17 #[v] w λe w'=>(∃ T:ByteArray,e=ρ (τ T)/\EnC tb T)/\υ w.heap.size w w':=by
 subst hv;obtain⟨C,hC,hk,hd⟩:=h;have htb:=Bb ht;obtain⟨D,hD⟩:∃ D:St,D=⟨1,tb,n,C,0,λ_=>⟨0,0,⟨#[]⟩⟩,⟨#[]⟩,0,λ_=>⟨0,0,⟨#[]⟩⟩,0,λ_=>⟨0,0,⟨#[]⟩⟩,0,λ_=>0,λ_ _=>⟨0,0,⟨#[]⟩⟩⟩:=⟨_,rfl⟩;have ok:AK D=true:=by
  rw [NP D (by rw [hD])];subst hD;have z:(⟨#[]⟩:ByteArray).size=0:=rfl;simp only [Bh,ht,z,Bool.true_and,VO]
  refine⟨by simp,by simp [Bn];omega,Ak λj hj=>hk j hj⟩
 have wh:∀ I,AI I 0=true:=λI=>by simp [AI]
 have sml:=Ic ok (by subst hD;exact wh _) (by subst hD;exact VS _) (by subst hD;exact wh _) (by subst hD;exact VS _) (by subst hD;exact VS _) (by subst hD;exact λk hk=>absurd hk (Vc k));have hM:SM w D ⟨a,c,ν,0,ν,0,ν,0,ν,0⟩:=by
  subst hD;exact⟨by show tb.size<=_;omega,by show (0:Nat)<=_;omega,hC,λk hk=>absurd hk (Vc k),λk hk=>absurd hk (Vc k),λk hk=>absurd hk (Vc k),λk hk=>absurd hk (Vc k),by show n<=_;omega,by show 0<=_;omega,by show 0<=_;omega,by show 0<=_;omega,by show 0<=_;omega⟩
 have hcs:(pC tb a n c).cs=GC D ⟨a,c,ν,0,ν,0,ν,0,ν,0⟩:=by subst hD;rfl
 rw [hcs];refine(Ks _ _ w hM).mono ?_;rintro e w' ⟨rfl,hb⟩;refine⟨⟨_,rfl,D,rfl,?_,by rw [hD],by rw [hD],by rw [hD];exact hd,sml⟩,hb⟩;subst hD;exact⟨λk hk=>absurd hk (Vc k),λk hk=>absurd hk (Vc k),λk hk=>absurd hk (Vc k),λk hk=>absurd hk (Vc k)⟩
structure Es(L:List ByteArray):Prop where
 all:∀ T∈L,∃ k tb,T2 k tb T
 t0:∀ T,L[0]?=ς T->EnC ⟨#[116]⟩ T
 t1:∀ T,L[1]?=ς T->EnC ⟨#[117]⟩ T
theorem Es.nil:Es []:=⟨(λT hT=>by cases hT),(λT hT=>by cases hT),(λT hT=>by cases hT)⟩
theorem Es.put{L:List ByteArray}{T tb:ByteArray}{k:Int}(h:Es L)(hT:T2 k tb T)(h0:L.length=0->EnC ⟨#[116]⟩ T)(h1:L.length=1->EnC ⟨#[117]⟩ T):Es (L ++ [T]):=by
 have at':∀ i U,(L ++ [T])[i]?=ς U->L[i]?=ς U∨(i=L.length/\U=T):=λi U hU=>by
  rcases Nat.lt_trichotomy i L.length with q | q | q
  · rw [List.getElem?_append_left q] at hU;exact .inl hU
  · subst q;rw [List.getElem?_append_right (VD _),Nat.sub_self] at hU;exact .inr ⟨rfl,(VF hU).symm⟩
  · rw [List.getElem?_append_right (by omega),List.getElem?_eq_none (by simp;omega)] at hU;cases hU
 refine⟨λU hU=>?_,λU hU=>?_,λU hU=>?_⟩
 ·
  rcases List.mem_append.1 hU with q | q
  · exact h.all U q
  · rw [List.mem_singleton.1 q];exact⟨k,tb,hT⟩
 ·
  rcases at' 0 U hU with q | ⟨q,rfl⟩
  · exact h.t0 U q
  · exact h0 q.symm
 ·
  rcases at' 1 U hU with q | ⟨q,rfl⟩
  · exact h.t1 U q
  · exact h1 q.symm
theorem Tryz.info9q:(Tryz.prog.info? 9).map (λi=>(i.zero,i.size,i.bytes))=ς (ς (τ ⟨#[]⟩),1,16):=by kernel_rfl
theorem KR(g B:Nat)(ca:Option Addr)(cn cc z s:Nat)(w:ο)(h:Cu w g B ca cn cc z s)(hz:z<=100000000)(hB:B<=w.heap.size) :
 VK μ 12 #[ψ (ς ⟨g,0,ν⟩),ι κ 12] w λe w'=>∃ (L:List ByteArray) (gz cap z' s':Nat),e=ρ (σ (ς ⟨gz,0,ν⟩) L.length cap)/\L.length<=15/\2<=L.length/\Es L/\w'.ownsRow w.heap.size 9 1 (σ (ς ⟨gz,0,ν⟩) L.length cap) L.length (L.map τ)/\z'<=z+20000/\Cu w' g B ca cn cc z' s'/\w.grownBy w' (ς g):=by
 obtain⟨i0,hi,hi0,hi1,hi2⟩:=info_parts Tryz.info9q;have HI:Hid (Tryz.prog.info? 9=ς i0):=hi;clear hi;have hlt:=h.lt;have hO0:(w.alloc (γ #[] 9)).ownsRow w.heap.size 9 1 (σ (ς ⟨w.heap.size,0,ν⟩) 0 0) 0 []:=World.ownsRow_lit w #[] 0 (VD _) (by simp [maxLen]) rfl;go_enter Tryz.func12,Tryz.ntmps12
 go_wp2_with (go_at_call 38;refine(OR _).mono ?_;rintro e w1 ⟨gh,a1,n1,a2,n2,rfl,hgh,ha1,ha2,hn1,hn2,hn1p,hn2p,hco1,hco2,hbl,hG1⟩)
 have hs1:=hG1.size;have hsa:(w.alloc (γ #[] 9)).heap.size=w.heap.size+1:=by simp
 rw [hsa] at hs1 hgh ha1 ha2;have hO1:=AS hO0 (OU hG1:(w.alloc (γ #[] 9)).grownBy w1 (ς g)) (by omega);have hC1:=(h.al hB (γ #[] 9)).gr hG1 (λ_ e=>by cases e) (by rw [hsa];omega);have hGG:w.grownBy w1 (ς g):=AQ (AU w _ _) (OU hG1);have cel:∀ i v,((pC ⟨#[116]⟩ (ς ⟨a1,0,ν⟩) n1 n1).cs ++ (pC ⟨#[117]⟩ (ς ⟨a2,0,ν⟩) n2 n2).cs)[i]?=ς v->w1.cell? ⟨gh,i,ν⟩=ς v:=λi v hv=>(ε _ _ i _ _ _ hbl).trans hv;go_loopw [5,7,13] (λo _ i wr=>∃ (k:Nat) (L:List ByteArray) (gz cap:Nat),k<=2/\i=ι κ k/\o=σ (ς ⟨gz,0,ν⟩) k cap/\L.length=k/\Es L/\wr.ownsRow w.heap.size 9 1 (σ (ς ⟨gz,0,ν⟩) k cap) k (L.map τ)/\(gz=w.heap.size∨w1.heap.size<=gz)/\(∀ q v,w.heap.size<q.block->w1.cell? q=ς v->wr.cell? q=ς v)/\w1.heap.size<=wr.heap.size/\Cu wr g B ca cn cc z s/\w.grownBy wr (ς g)) (λ_ _ i _=>2 - (VQ i).toNat)
 case atStart=>exact⟨0,[],w.heap.size,0,by omega,rfl,rfl,rfl,Es.nil,hO1,VV rfl,(λ_ _ _ h=>h),VD _,hC1,hGG⟩
 case round=>
  obtain⟨k,L,gz,cap,hk,rfl,rfl,hL,hE,hO,hgz,hkk,hsr,hC,hG⟩:=hrel;by_cases hk2:k<2
  ·
   rcases (show k=0∨k=1 by omega) with rfl | rfl
   ·
    have f0:=hkk ⟨gh,0,ν⟩ _ (by show w.heap.size<gh;omega) (cel 0 _ rfl);have f1:=hkk ⟨gh,1,ν⟩ _ (by show w.heap.size<gh;omega) (cel 1 _ rfl);have f2:=hkk ⟨gh,2,ν⟩ _ (by show w.heap.size<gh;omega) (cel 2 _ rfl);have f3:=hkk ⟨gh,3,ν⟩ _ (by show w.heap.size<gh;omega) (cel 3 _ rfl);have f4:=hkk ⟨gh,4,ν⟩ _ (by show w.heap.size<gh;omega) (cel 4 _ rfl);have f5:=hkk ⟨gh,5,ν⟩ _ (by show w.heap.size<gh;omega) (cel 5 _ rfl);have f6:=hkk ⟨gh,6,ν⟩ _ (by show w.heap.size<gh;omega) (cel 6 _ rfl);have f7:=hkk ⟨gh,7,ν⟩ _ (by show w.heap.size<gh;omega) (cel 7 _ rfl);have hcoA:=(hco1.ka hkk (BG (by omega))).later (AD wr (γ (pC ⟨#[116]⟩ (ς ⟨a1,0,ν⟩) n1 n1).cs 34));have hCa:=hC.al (by omega) (γ (pC ⟨#[116]⟩ (ς ⟨a1,0,ν⟩) n1 n1).cs 34);have hOa:=hO.alloc (γ (pC ⟨#[116]⟩ (ς ⟨a1,0,ν⟩) n1 n1).cs 34);go_wp2_with (first | (go_at_call 17;refine(KS ⟨#[116]⟩ (ς ⟨a1,0,ν⟩) n1 n1 _ _ (by exact rfl) (by kernel_rfl) hcoA (by omega) (by omega)).mono ?_;rintro e w2 ⟨⟨T,rfl,hT⟩,hb2⟩;have hG2:(wr.alloc (γ (pC ⟨#[116]⟩ (ς ⟨a1,0,ν⟩) n1 n1).cs 34)).grownBy w2 (ς g):=Qa hb2;have hO2:=AS hOa hG2 (by omega);have hC2:=hCa.gr (Qa hb2:(wr.alloc (γ (pC ⟨#[116]⟩ (ς ⟨a1,0,ν⟩) n1 n1).cs 34)).grownBy w2 ν) (λ_ e=>by cases e) (by simp;omega);have hs2:=hG2.size;have hss:(wr.alloc (γ (pC ⟨#[116]⟩ (ς ⟨a1,0,ν⟩) n1 n1).cs 34)).heap.size=wr.heap.size+1:=(by simp);rw [hss] at hs2) | (at_builtin;refine VR _ rfl _ _ _ rfl w.heap.size 9 i0 (τ ⟨#[]⟩) 1 16 Tryz.underlying23 HI.out hi0 hi1 hi2 rfl (by omega) _ 0 _ rfl (hO2.alloc _) ⟨w2.heap.size,0,ν⟩ 1 1 [τ T] rfl rfl (VI (η w2 _)) (Bt _ rfl) (by omega) (by unfold maxLen;omega) (by omega) (by simp;omega) _ rfl ?_;intro g1 cap1 w3 hO3 hgr3 hat3 hlt3;replace hgr3:(w2.alloc (γ #[τ T] 9)).grownBy w3 (ς gz):=hgr3;have hs3:=hgr3.size;have hsz:(w2.alloc (γ #[τ T] 9)).heap.size=w2.heap.size+1:=(by simp);rw [hsz] at hs3;have hge:=A3 hO))
    go_roundw
    case rel=>exact⟨1,L ++ [T],g1,cap1,by omega,by go_num,rfl,by simp [hL],hE.put hT.en (λ_=>hT) (λe=>by omega),by rw [←FT L T];simpa using hO3,(hat3.elim (λe=>by have e:gz=g1:=VF e;subst e;exact hgz) (λe=>Vb (by omega))),(λq v hq hc=>Aw hgr3 (Aw (AU w2 _ ν) (Aw (Qa hb2:(wr.alloc (γ (pC ⟨#[116]⟩ (ς ⟨a1,0,ν⟩) n1 n1).cs 34)).grownBy w2 ν) (Aw (AU wr _ ν) (hkk q v hq hc) (λe=>by cases e)) (λe=>by cases e)) (λe=>by cases e)) (λe=>by have e:q.block=gz:=VF e;have:=World.block_lt_of_cell? _ _ hc;omega)),by omega,(hC2.al (by omega) _).gw hgr3 (by omega) (by omega),Ch (AQ (AQ (AQ hG (AU wr _ _)) hG2) (AU w2 _ _)) hgr3 (λj e=>by have e:gz=j:=VF e;omega)⟩
    case measure=>simp [VQ]
   ·
    have f0:=hkk ⟨gh,8,ν⟩ _ (by show w.heap.size<gh;omega) (cel 8 _ rfl);have f1:=hkk ⟨gh,9,ν⟩ _ (by show w.heap.size<gh;omega) (cel 9 _ rfl);have f2:=hkk ⟨gh,10,ν⟩ _ (by show w.heap.size<gh;omega) (cel 10 _ rfl);have f3:=hkk ⟨gh,11,ν⟩ _ (by show w.heap.size<gh;omega) (cel 11 _ rfl);have f4:=hkk ⟨gh,12,ν⟩ _ (by show w.heap.size<gh;omega) (cel 12 _ rfl);have f5:=hkk ⟨gh,13,ν⟩ _ (by show w.heap.size<gh;omega) (cel 13 _ rfl);have f6:=hkk ⟨gh,14,ν⟩ _ (by show w.heap.size<gh;omega) (cel 14 _ rfl);have f7:=hkk ⟨gh,15,ν⟩ _ (by show w.heap.size<gh;omega) (cel 15 _ rfl);have hcoA:=(hco2.ka hkk (BG (by omega))).later (AD wr (γ (pC ⟨#[117]⟩ (ς ⟨a2,0,ν⟩) n2 n2).cs 34));have hCa:=hC.al (by omega) (γ (pC ⟨#[117]⟩ (ς ⟨a2,0,ν⟩) n2 n2).cs 34);have hOa:=hO.alloc (γ (pC ⟨#[117]⟩ (ς ⟨a2,0,ν⟩) n2 n2).cs 34);go_wp2_with (first | (go_at_call 17;refine(KS ⟨#[117]⟩ (ς ⟨a2,0,ν⟩) n2 n2 _ _ (by exact rfl) (by kernel_rfl) hcoA (by omega) (by omega)).mono ?_;rintro e w2 ⟨⟨T,rfl,hT⟩,hb2⟩;have hG2:(wr.alloc (γ (pC ⟨#[117]⟩ (ς ⟨a2,0,ν⟩) n2 n2).cs 34)).grownBy w2 (ς g):=Qa hb2;have hO2:=AS hOa hG2 (by omega);have hC2:=hCa.gr (Qa hb2:(wr.alloc (γ (pC ⟨#[117]⟩ (ς ⟨a2,0,ν⟩) n2 n2).cs 34)).grownBy w2 ν) (λ_ e=>by cases e) (by simp;omega);have hs2:=hG2.size;have hss:(wr.alloc (γ (pC ⟨#[117]⟩ (ς ⟨a2,0,ν⟩) n2 n2).cs 34)).heap.size=wr.heap.size+1:=(by simp);rw [hss] at hs2) | (at_builtin;refine VR _ rfl _ _ _ rfl w.heap.size 9 i0 (τ ⟨#[]⟩) 1 16 Tryz.underlying23 HI.out hi0 hi1 hi2 rfl (by omega) _ 1 _ rfl (hO2.alloc _) ⟨w2.heap.size,0,ν⟩ 1 1 [τ T] rfl rfl (VI (η w2 _)) (Bt _ rfl) (by omega) (by unfold maxLen;omega) (by omega) (by simp;omega) _ rfl ?_;intro g1 cap1 w3 hO3 hgr3 hat3 hlt3;replace hgr3:(w2.alloc (γ #[τ T] 9)).grownBy w3 (ς gz):=hgr3;have hs3:=hgr3.size;have hsz:(w2.alloc (γ #[τ T] 9)).heap.size=w2.heap.size+1:=(by simp);rw [hsz] at hs3;have hge:=A3 hO))
    go_roundw
    case rel=>exact⟨2,L ++ [T],g1,cap1,by omega,by go_num,rfl,by simp [hL],hE.put hT.en (λe=>by omega) (λ_=>hT),by rw [←FT L T];simpa using hO3,(hat3.elim (λe=>by have e:gz=g1:=VF e;subst e;exact hgz) (λe=>Vb (by omega))),(λq v hq hc=>Aw hgr3 (Aw (AU w2 _ ν) (Aw (Qa hb2:(wr.alloc (γ (pC ⟨#[117]⟩ (ς ⟨a2,0,ν⟩) n2 n2).cs 34)).grownBy w2 ν) (Aw (AU wr _ ν) (hkk q v hq hc) (λe=>by cases e)) (λe=>by cases e)) (λe=>by cases e)) (λe=>by have e:q.block=gz:=VF e;have:=World.block_lt_of_cell? _ _ hc;omega)),by omega,(hC2.al (by omega) _).gw hgr3 (by omega) (by omega),Ch (AQ (AQ (AQ hG (AU wr _ _)) hG2) (AU w2 _ _)) hgr3 (λj e=>by have e:gz=j:=VF e;omega)⟩
    case measure=>simp [VQ]
  ·
   obtain rfl:k=2:=by omega
   go_wp2_with (go_at_call 39;refine(Az g B ca cn cc z s _ hC (by omega) _ (by omega)).mono ?_;rintro e w2 ⟨r,z1,s1,rfl,hr0,hr1,-,hz1',hC2,hG2⟩)
   obtain⟨n,rfl⟩:∃ n:Nat,r=n:=⟨r.toNat,by omega⟩;have hn12:n<=11:=by omega
   have hge2:=A3 hO;have hs2:=hG2.size;have hO2:=AS hO hG2 (by omega);have hGw:w.grownBy w2 (ς g):=AQ hG hG2;have HL:Hid (L.length=2):=hL;clear hL;go_loopw [5,9] (λo i wx=>∃ (m:Nat) (M:List ByteArray) (gy cy zz ss:Nat),m<=n+2/\i=ι κ m/\o=σ (ς ⟨gy,0,ν⟩) (m+2) cy/\M.length=m+2/\Es M/\wx.ownsRow w.heap.size 9 1 (σ (ς ⟨gy,0,ν⟩) (m+2) cy) (m+2) (M.map τ)/\Cu wx g B ca cn cc zz ss/\zz<=z+1+1000 * m/\w.grownBy wx (ς g)) (λ_ i _=>n+2 - (VQ i).toNat)
   case atStart=>exact⟨0,L,gz,cap,z1,s1,by omega,rfl,rfl,HL.out,hE,hO2,hC2,by omega,hGw⟩
   case round=>
    obtain⟨m,M,gy,cy,zz,ss,hm,rfl,rfl,hM,hE2,hOx,hCx,hzz,hGx⟩:=hrel;have HM:Hid (M.length=m+2):=hM;have hgy:=A3 hOx;have hwx:=hGx.size;clear hM;by_cases hlt2:m<n+2
    ·
     go_wp2_with (first | (go_at_call 40;refine(KU g B ca cn cc zz ss _ hCx (by omega) (by omega)).mono ?_;rintro e w3 ⟨p,z2,s2,rfl,hSm,hSh,hz2,hC3,hG3⟩;have hO3:=AS hOx hG3 (by omega);have hs3:=hG3.size) | (go_at_call 17;refine(Ms p _ _ (by exact⟨rfl,hSm,hSh⟩)).mono ?_;rintro e w4 ⟨⟨T,rfl,hT⟩,hb4⟩;have hG4:w3.grownBy w4 (ς g):=Qa hb4;have hO4:=AS hO3 hG4 (by omega);have hC4:=hC3.gr (Qa hb4:w3.grownBy w4 ν) (λ_ e=>by cases e) (by omega);have hs4:=hG4.size) | (at_builtin;refine VR _ rfl _ _ _ rfl w.heap.size 9 i0 (τ ⟨#[]⟩) 1 16 Tryz.underlying23 HI.out hi0 hi1 hi2 rfl (by omega) _ (m+2) _ rfl (hO4.alloc _) ⟨w4.heap.size,0,ν⟩ 1 1 [τ T] rfl rfl (VI (η w4 _)) (Bt _ rfl) (by omega) (by unfold maxLen;omega) (by omega) (by simp;omega) _ rfl ?_;intro g1 cap1 w5 hown1 hgrow hat hlt1))
     go_roundw
     case rel=>exact⟨m+1,M ++ [T],g1,cap1,z2,s2,by omega,by go_num,rfl,by simp [HM.out],hE2.put hT (λe=>by have:=HM.out;omega) (λe=>by have:=HM.out;omega),by rw [←FT M T];simpa using hown1,(hC4.gr (AU w4 _ ν) (λ_ h=>by cases h) (by omega)).gr hgrow (λq hq=>by have e:gy=q:=VF hq;omega) (by simp;omega),by omega,Ch (AQ (AQ (AQ hGx hG3) hG4) (AU w4 _ _)) hgrow (λq hq=>by have e:gy=q:=VF hq;omega)⟩
     case measure=>simp [VQ];omega
    ·
     obtain rfl:m=n+2:=by omega
     go_wp2;go_ret
     exact⟨M,gy,cy,zz,ss,by rw [HM.out];rfl,by rw [HM.out];omega,by rw [HM.out];omega,hE2,by rw [HM.out];exact hOx,by omega,hCx,hGx⟩
def Et(L:List ByteArray):Prop:=∀ T∈L,T.size<=60000
theorem Et.put{L:List ByteArray}{T:ByteArray}(h:Et L)(hT:T.size<=60000):Et (L ++ [T]):=QG h hT
theorem Nm{w:ο}{B B' g n cap:Nat}{xs:List VN}(h:w.ownsRow B 9 1 (σ (ς ⟨g,0,ν⟩) n cap) n xs)(hB:B'<=B):w.ownsRow B' 9 1 (σ (ς ⟨g,0,ν⟩) n cap) n xs:=by
 obtain⟨hl,hh⟩:=h;refine⟨hl,?_⟩;rcases hh with hh | ⟨gg,cap',cur,e1,e2,e3⟩
 · exact VV hh
 · exact Vb ⟨gg,cap',cur,e1,VX hB e2,e3⟩
theorem PY{w w':ο}{B g n cap:Nat}{xs:List VN}{r:Option Nat}(h:w.ownsRow B 9 1 (σ (ς ⟨g,0,ν⟩) n cap) n xs)(hg:w.grownBy w' r)(hne:ς g≠r):w'.ownsRow B 9 1 (σ (ς ⟨g,0,ν⟩) n cap) n xs:=
 h.kept hg (Vb (by simpa [Value.ownBlock] using hne))
theorem Kx{w:ο}{B g n cap:Nat}{xs:List VN}(h:w.ownsRow B 9 1 (σ (ς ⟨g,0,ν⟩) n cap) n xs):g<w.heap.size:=by
 rcases h.2 with ⟨e,_⟩ | ⟨g',cap',cur,e,_,hg,_⟩
 · cases e
 ·
  cases e
  exact Oz hg
def GG(w:ο)(ca:Option Addr)(cn:Nat):Prop:=∀ j,j<cn->∃ b off v,ca=ς ⟨b,off,ν⟩/\w.cell? ⟨b,off+j,ν⟩=ς (ι .u8 v)/\0<=v/\v<=255
theorem Rn(w:ο)(ca:Option Addr)(cn cc:Nat)(h:GG w ca cn)(hn:cn<=1048576):Cu (w.alloc (γ #[σ ca cn cc,ι κ 0,ι κ 0] 49)) w.heap.size (w.heap.size+1) ca cn cc 0 0:=by
 have hh:=η w (γ #[σ ca cn cc,ι κ 0,ι κ 0] 49);refine⟨(ε _ _ 0 _ _ _ hh).trans rfl,(ε _ _ 1 _ _ _ hh).trans rfl,(ε _ _ 2 _ _ _ hh).trans rfl,ζ _ _ 1 _ _ hh,ζ _ _ 2 _ _ hh,by omega,hn,by omega,λj hj=>?_⟩;obtain⟨b,off,v,e,hc,h0,h1⟩:=h j hj;have hb:=World.block_lt_of_cell? _ _ hc;exact⟨b,off,v,e,Nat.ne_of_lt hb,Nat.lt_succ_of_lt hb,AB (AD w _) hc,h0,h1⟩
theorem JK(ca:Option Addr)(cn cc:Nat)(w:ο)(h:GG w ca cn)(hn:cn<=1048576) :
 VK μ 4 #[σ ca cn cc] w λe w'=>∃ (L M:List ByteArray) (g1 c1 g2 c2:Nat),e=ρ (θ #[σ (ς ⟨g1,0,ν⟩) L.length c1,σ (ς ⟨g2,0,ν⟩) 6 c2])/\L.length<=15/\2<=L.length/\M.length=6/\Es L/\Et M/\w'.ownsRow w.heap.size 9 1 (σ (ς ⟨g1,0,ν⟩) L.length c1) L.length (L.map τ)/\w'.ownsRow w.heap.size 9 1 (σ (ς ⟨g2,0,ν⟩) 6 c2) 6 (M.map τ)/\υ w.heap.size w w':=by
 obtain⟨i0,hi,hi0,hi1,hi2⟩:=info_parts Tryz.info9q;have HI:Hid (Tryz.prog.info? 9=ς i0):=hi;clear hi;have hC:=Rn w ca cn cc h hn;have hz:(w.alloc (γ #[σ ca cn cc,ι κ 0,ι κ 0] 49)).heap.size=w.heap.size+1:=by simp
 have hb:=AD w (γ #[σ ca cn cc,ι κ 0,ι κ 0] 49);go_enter Tryz.func4,Tryz.ntmps4
 go_wp2_with (go_at_call 12;refine(KR w.heap.size (w.heap.size+1) ca cn cc 0 0 _ hC (by omega) (by simp)).mono ?_;rintro e w1 ⟨L,g1,c1,z1,s1,rfl,hL15,hL1,hE,hO,hz1,hC1,hG1⟩)
 have hs1:=hG1.size;rw [hz] at hs1 hO;obtain⟨n,hln⟩:∃ n,L.length=n:=⟨_,rfl⟩;have HLn:Hid (L.length=n):=hln;rw [hln] at hL15 hL1 hO ⊢;have hO1:=hO.alloc (γ #[] 9);clear hln;have hO2:(w1.alloc (γ #[] 9)).ownsRow (w.heap.size+1) 9 1 (σ (ς ⟨w1.heap.size,0,ν⟩) 0 0) 0 []:=World.ownsRow_lit w1 #[] 0 (by omega) (by simp [maxLen]) rfl;have hg1:=A3 hO;have hg1':=Kx hO;have hCa:=hC1.al (by omega) (γ #[] 9);have hGa:(w.alloc (γ #[σ ca cn cc,ι κ 0,ι κ 0] 49)).grownBy (w1.alloc (γ #[] 9)) (ς w.heap.size):=AQ hG1 (AU _ _ _);go_loopw [6,7] (λo i wr=>∃ (k:Nat) (M:List ByteArray) (gz cap zz ss:Nat),k<=6/\i=ι κ k/\o=σ (ς ⟨gz,0,ν⟩) k cap/\M.length=k/\Et M/\w1.heap.size<=gz/\wr.ownsRow (w.heap.size+1) 9 1 (σ (ς ⟨gz,0,ν⟩) k cap) k (M.map τ)/\wr.ownsRow (w.heap.size+1) 9 1 (σ (ς ⟨g1,0,ν⟩) n c1) n (L.map τ)/\w1.heap.size<=wr.heap.size/\Cu wr w.heap.size (w.heap.size+1) ca cn cc zz ss/\zz<=z1+100 * k/\(w.alloc (γ #[σ ca cn cc,ι κ 0,ι κ 0] 49)).grownBy wr (ς w.heap.size)) (λ_ i _=>6 - (VQ i).toNat)
 case atStart=>exact⟨0,[],w1.heap.size,0,z1,s1,by omega,rfl,rfl,rfl,(λT hT=>by cases hT),VD _,hO2,hO1,by simp,hCa,by omega,hGa⟩
 case round=>
  obtain⟨k,M,gz,cap,zz,ss,hk,rfl,rfl,hM,hEM,hgz,hOM,hOL,hsr,hCr,hzz,hGr⟩:=hrel;have HM:Hid (M.length=k):=hM;have hgM:=A3 hOM;clear hM;by_cases hlt:k<6
  ·
   go_wp2_with (first | (go_at_call 13;refine(IA w.heap.size (w.heap.size+1) ca cn cc zz ss _ hCr (by omega) (by omega) 40 (by omega)).mono ?_;rintro e w2 ⟨T,z2,s2,rfl,hTs,hz2',hC2,hG2⟩;have hOM2:=AS hOM hG2 (by omega);have hOL2:=AS hOL hG2 (by omega);have hs2:=hG2.size) | (at_builtin;refine VR _ rfl _ _ _ rfl (w.heap.size+1) 9 i0 (τ ⟨#[]⟩) 1 16 Tryz.underlying23 HI.out hi0 hi1 hi2 rfl (by omega) _ k _ rfl (hOM2.alloc _) ⟨w2.heap.size,0,ν⟩ 1 1 [τ T] rfl rfl (VI (η w2 _)) (Bt _ rfl) (by omega) (by unfold maxLen;omega) (by omega) (by simp;omega) _ rfl ?_;intro g3 cap3 w3 hown3 hgrow hat hlt3;replace hgrow:(w2.alloc (γ #[τ T] 9)).grownBy w3 (ς gz):=hgrow;have hs3:=hgrow.size;have hsz:(w2.alloc (γ #[τ T] 9)).heap.size=w2.heap.size+1:=(by simp);rw [hsz] at hs3))
   go_roundw
   case rel=>exact⟨k+1,M ++ [T],g3,cap3,z2,s2,by omega,by go_num,rfl,by simp [HM.out],hEM.put (by omega),(hat.elim (λe=>by have e:gz=g3:=VF e;omega) (λe=>by omega)),by rw [←FT M T];simpa using hown3,PY (hOL2.alloc _) hgrow (λe=>by have e:g1=gz:=VF e;omega),by omega,(hC2.al (by omega) _).gr hgrow (λq hq=>by have e:gz=q:=VF hq;omega) (by simp;omega),by omega,Ch (AQ (AQ hGr hG2) (AU w2 _ _)) hgrow (λq hq=>by have e:gz=q:=VF hq;omega)⟩
   case measure=>simp [VQ];omega
  ·
   obtain rfl:k=6:=by omega
   go_wp2;refine VE (by simp [results,Tryz.results4,go_sem];rfl) rfl ?_;refine⟨L,M,g1,c1,gz,cap,by rw [HLn.out],by rw [HLn.out];exact hL15,by rw [HLn.out];exact hL1,HM.out,hE,hEM,by rw [HLn.out];exact Nm hOL (by omega),Nm hOM (by omega),hb.trans ⟨hGr.os,hGr.tape,hGr.output,hGr.size,λj hj=>hGr.block j (by omega) (λe=>by have:=VF e;omega)⟩⟩
end Go.Proofs.YtoeencbghldmdaaGreatDoor
namespace Go.Proofs.YtoeencbghldmdaaGreatDoor
open Go.RowKit Go.Maps Go.WideMaps
theorem QF{n:Nat}{T:Nat->Td}{d:St}(h:A2 n T=true)(hs:AK d=true)(hc:¬(Bf n T d).2=0∨d.k=5):(Bf n T d).1=Ap T n:=by
 revert hc
 unfold Bf;rw [if_neg (by rw [h];simp),if_neg (by rw [hs];simp)];by_cases k1:d.k=1
 ·
  rw [if_pos k1];unfold FL;repeat' split
  all_goals intro hc;first | rfl | exact absurd rfl (hc.resolve_right (by omega))
 rw [if_neg k1];rcases An T d.tb n with _ | j
 · exact λ_=>rfl
 dsimp only
 by_cases k2:d.k=2
 ·
  rw [if_pos k2];unfold Gi;repeat' split
  all_goals intro hc;first | rfl | exact absurd rfl (hc.resolve_right (by omega))
 rw [if_neg k2];by_cases k3:d.k=3
 ·
  rw [if_pos k3];unfold Gd;rcases BF (T j).C d.col (T j).n with _ | q
  · exact λ_=>rfl
  dsimp only
  repeat' split
  all_goals intro hc;first | rfl | exact absurd rfl (hc.resolve_right (by omega))
 rw [if_neg k3];by_cases k4:d.k=4
 ·
  rw [if_pos k4];unfold JO;split
  all_goals intro hc;first | rfl | exact absurd rfl (hc.resolve_right (by omega))
 rw [if_neg k4];exact λ_=>rfl
theorem DbIn.tc{lo g n:Nat}{w:ο}{A:List Tb}{T:Nat->Td}(h:DbIn lo w g A)(hl:A.length=n)(ho:∀ i,i<n->TbOf (A.getD i b0) (T i))(hsm:∀ i,i<n->Sm3 (T i)):Liv (λb=>lo<=b) w (λv=>TC v g n T):=λv hv k hk=>by
 obtain⟨⟨⟨cur,h1,h2,h3⟩,h4,-⟩,h6⟩:=h;obtain⟨c0,c1,c2⟩:=h3 k (by omega);have hm:=Ae (y:=b0) (by omega:k<A.length);have ht:=h4 _ hm;have hto:=ho k hk;have hin:∀ b∈(A.getD k b0).bl,lo<=b:=λb hb=>(h6 b (List.mem_cons_of_mem _ (List.mem_flatMap.2 ⟨_,hm,hb⟩))).1;have hg:=(h6 g List.mem_cons_self).1;have hle:(A.getD k b0).L.length=(T k).r:=by have:=congrArg List.length hto.L;simpa using this
 have ec:=ht.col;obtain⟨cc,-,-,hcc⟩:=ec;refine⟨(A.getD k b0).bc,(A.getD k b0).cc,(A.getD k b0).ar,(A.getD k b0).cr,hv _ _ hg ?_,hv _ _ hg ?_,hv _ _ hg ?_,by rw [←hto.n];exact hcc,?_,?_,hsm k hk⟩
 · rw [←hto.s];exact(ε _ _ _ _ _ _ h1).trans c0
 · rw [←hto.n];exact(ε _ _ _ _ _ _ h1).trans c1
 · rw [←hle];exact(ε _ _ _ _ _ _ h1).trans c2
 · rw [←hto.n,←hto.C];exact ht.cl.liv (X:=λb=>lo<=b) (λb off e=>by cases e;exact hin _ List.mem_cons_self) v hv
 ·
  intro i hi;rcases ht.row with z | ⟨b,cr,e,hb,hc⟩
  · omega
  ·
   have hx:((A.getD k b0).L.getD i o0).x=((T k).m i,(T k).R i):=by
    have z:=congrArg (λl=>l[i]?) hto.L;simp only [List.getElem?_map,List.getElem?_range hi,Option.map_some] at z
    have e2:∀ l:List Ro,i<l.length->l[i]?=ς (l.getD i o0):=λl h=>by simp [h]
    rw [e2 _ (by omega)] at z;simpa using z
   have hmr:=E0 (by omega:i<(A.getD k b0).L.length);have hr:=ht.ros _ hmr;have hv1:=hc i (by omega);unfold Ro.v at hv1;refine⟨b,0,ς ⟨((A.getD k b0).L.getD i o0).b,0,ν⟩,((A.getD k b0).L.getD i o0).c,by unfold Tb.ar;rw [e];rfl,hv _ _ (hin _ ?_) ?_,?_,((hsm k hk).ro.2 i hi).1⟩
   · unfold Tb.bl;rw [e];exact List.mem_cons_of_mem _ (List.mem_append_left _ (by simp))
   ·
    rw [VM,show (T k).m i=((A.getD k b0).L.getD i o0).x.1 from by rw [hx]]
    exact(ε _ _ i _ _ _ hb).trans hv1
   · have z:=hr.2;rw [hx] at z;exact z.liv (X:=λb=>lo<=b) (λb' off e=>by cases e;exact hin _ (List.mem_cons_of_mem _ (List.mem_append_right _ (List.mem_map.2 ⟨_,hmr,rfl⟩)))) v hv
theorem Sz{n:Nat}{T:Nat->Td}{d:St}{p:Sa}{a:Option Addr}{c:Nat}{w:ο}(hT:TS w a n T)(hM:SM w d p)(hn:n<=1048576)(hc:d.n2<=p.c2):VK μ 6 #[χ #[σ a n c],χ (GC d p)] w (LS w (Bf n T d).1 (Bf n T d).2):=
 Lf a n c T d.k d.tb p.a2 d.n2 p.c2 p.a3 d.n3 p.c3 d.col p.a5 d.n5 p.c5 p.a6 d.n6 p.c6 p.a7 d.n7 p.c7 d.C d.V d.E d.W d.m7 d.O d rfl w hT hM hn hc
def U1(w:ο)(N:Nat)(U:Nat->Td)(cd:Int)(e:Ending)(w':ο):Prop:=∃ g c,e=ρ (θ #[χ #[σ (ς ⟨g,0,ν⟩) N c],ι κ cd])/\Liv (λb=>w.heap.size<=b) w' (λv=>TC v g N U)/\υ w.heap.size w w'
theorem S5{n:Nat}{T:Nat->Td}{d:St}{p:Sa}{a:Option Addr}{c:Nat}{w:ο}(hSp:SpT w)(hT:TL w a n T)(hM:SM w d p)(h:A2 n T=true)(hs:AK d=true)(hr:∀ k,k<n->ML (T k))(hD:RgD d)(hsm:∀ i,i<(Bf n T d).1.length->Sm3 ((Bf n T d).1.getD i t0)) :
 VK μ 7 #[χ #[σ a n c],χ (GC d p)] w (U1 w (Bf n T d).1.length (λi=>(Bf n T d).1.getD i t0) (Bf n T d).2):=by
 have hn:n<=100:=(Ax h).1;refine(Rk a n c T d.k d.tb p.a2 d.n2 p.c2 p.a3 d.n3 p.c3 d.col p.a5 d.n5 p.c5 p.a6 d.n6 p.c6 p.a7 d.n7 p.c7 d.C d.V d.E d.W d.m7 d.O d rfl w hSp hT hM (by omega) hr hD).mono ?_;rintro e w' (⟨-,-,g,c1,B,e1,hI,hl,ho,hb⟩ | ⟨z | z,-⟩)
 · exact⟨g,c1,e1,hI.tc hl ho hsm,hb⟩
 · rw [h] at z;cases z
 · rw [hs] at z;cases z
def R0(w:ο)(m:Nat)(cd:Int)(e:Ending)(w':ο):Prop:=∃ a c,e=ρ (θ #[σ a m c,ι κ cd])/\υ w.heap.size w w'
theorem S4{n:Nat}{T:Nat->Td}{d:St}{p:Sa}{a:Option Addr}{c:Nat}{w:ο}(hT:TS w a n T)(hM:SM w d p)(hn:n<=1048576)(hc:d.n2<=p.c2):VK μ 11 #[χ #[σ a n c],χ (GC d p)] w (R0 w (A8 n T d).1.length (A8 n T d).2):=
 (PP a n c T d.k d.tb p.a2 d.n2 p.c2 p.a3 d.n3 p.c3 d.col p.a5 d.n5 p.c5 p.a6 d.n6 p.c6 p.a7 d.n7 p.c7 d.C d.V d.E d.W d.m7 d.O d rfl w hT hM hn hc).mono λ_ _ ⟨a,c,e,_,h⟩=>⟨a,c,e,h⟩
theorem Lq{n:Nat}{T:Nat->Td}{d:St}{p:Sa}{a:Option Addr}{c:Nat}{w:ο}(hSp:SpT w)(hT:TL w a n T)(hM:SM w d p)(hn:n<=1048576):VK μ 10 #[χ #[σ a n c],χ (GC d p)] w (R0 w (A8 n T d).1.length (A8 n T d).2):=
 (Pr a n c T d.k d.tb p.a2 d.n2 p.c2 p.a3 d.n3 p.c3 d.col p.a5 d.n5 p.c5 p.a6 d.n6 p.c6 p.a7 d.n7 p.c7 d.C d.V d.E d.W d.m7 d.O d rfl w hSp hT hM hn).mono λ_ _ ⟨a,c,e,_,_,h⟩=>⟨a,c,e,h⟩
def Cn(k n:Nat)(T:Nat->Td):Prop:=(k=0->n=0)/\(k=1->n=1/\(T 0).s=⟨#[116]⟩)/\(2<=k->2<=n)
structure Dk(k:Nat)(s:ByteArray)(d:St):Prop where
 en:CT d=s
 rg:RG d
 sz:1<=s.size
 h0:k=0->d.k=1/\d.tb=⟨#[116]⟩/\DW d.C d.n2=true
 h1:k=1->d.k=1/\d.tb=⟨#[117]⟩/\DW d.C d.n2=true
theorem Es.at{L:List ByteArray}{k:Nat}{s:ByteArray}(h:Es L)(hk:L[k]?=ς s):∃ d,Dk k s d:=by
 by_cases e0:k=0
 · subst e0;obtain⟨d,a,b,c,e,f,g,-⟩:=h.t0 s hk;exact⟨d,a,b,g,λ_=>⟨c,e,f⟩,λe=>by omega⟩
 by_cases e1:k=1
 · subst e1;obtain⟨d,a,b,c,e,f,g,-⟩:=h.t1 s hk;exact⟨d,a,b,g,λe=>by omega,λ_=>⟨c,e,f⟩⟩
 obtain⟨k',tb,d,a,b,-,-,g,-⟩:=h.all s (List.mem_of_getElem? hk);exact⟨d,a,b,g,λe=>absurd e e0,λe=>absurd e e1⟩
theorem Dk.ok{k:Nat}{s:ByteArray}{d:St}(h:Dk k s d):AK d=true:=(Og h.en h.sz).1
theorem Dk.rd{k:Nat}{s:ByteArray}{d:St}(h:Dk k s d):RgD d:=⟨λi hi=>F2.2 (h.rg.va i hi),λi hi=>F2.2 (h.rg.ex i hi)⟩
theorem Cn.next{k n:Nat}{T:Nat->Td}{s:ByteArray}{d:St}(h:Cn k n T)(hd:Dk k s d)(ho:A2 n T=true):Cn (k+1) (Bf n T d).1.length (λi=>(Bf n T d).1.getD i t0):=by
 refine⟨λe=>by omega,λe=>?_,λe=>?_⟩
 ·
  have e0:k=0:=by omega
  have hn:=h.1 e0;obtain⟨a,b,c⟩:=hd.h0 e0;obtain⟨l,m⟩:=O7 ho hd.ok a c (by omega) (λi hi=>by omega);refine⟨by omega,?_⟩;rcases m _ (Ae (y:=t0) (by omega:0<(Bf n T d).1.length)) with q | ⟨i,hi,-⟩
  · exact q.trans b
  · omega
 ·
  by_cases e1:k=1
  ·
   obtain⟨hn,ht⟩:=h.2.1 e1;obtain⟨a,b,c⟩:=hd.h1 e1;obtain⟨l,-⟩:=O7 ho hd.ok a c (by omega) (λi hi=>by
    obtain rfl:i=0:=by omega
    rw [ht,b];intro e;have:=congrArg (λx:ByteArray=>x.data[0]?) e;simp at this)
   omega
  · have:=h.2.2 (by omega);have:=(O6 ho hd.ok).2;omega
def LI(L:List ByteArray)(gl b5 k:Nat)(w:ο):Prop:=∃ (n:Nat) (T:Nat->Td) (aD aR:Option Addr) (cD cR:Nat),
 w.heap[b5]?=ς (γ #[σ aD n cD] 28 (0,0))/\w.heap[b5+1]?=ς (γ #[σ aR n cR] 28 (0,0)) /\
 Liv (λb=>b≠b5/\b≠b5+1) w (λv=>(SpT v/\∀ (j:Nat) (s:ByteArray),L[j]?=ς s->v.cell? ⟨gl,j,ν⟩=ς (τ s))/\TL v aD n T/\TS v aR n T)/\A2 n T=true/\(∀ k,k<n->ML (T k))/\Cn k n T
theorem LI.next{L:List ByteArray}{gl b5 k n N lo:Nat}{T U:Nat->Td}{aD aR aN aW:Option Addr}{cN cW:Nat}{w v:ο}{x y:VN}
 (hw:Liv (λb=>b≠b5/\b≠b5+1) w (λv=>(SpT v/\∀ (j:Nat) (s:ByteArray),L[j]?=ς s->v.cell? ⟨gl,j,ν⟩=ς (τ s))/\TL v aD n T/\TS v aR n T)) (hb:υ w.heap.size w v)
 (q5:v.heap[b5]?=ς (γ #[x] 28 (0,0))) (q6:v.heap[b5+1]?=ς (γ #[y] 28 (0,0))) (hlo:b5+1<lo)
 (hD:Liv (λb=>lo<=b) v (λu=>TL u aN N U)) (hS:Liv (λb=>lo<=b) v (λu=>TS u aW N U)) (ho:A2 N U=true) (hr:∀ k,k<N->ML (U k)) (hc:Cn (k+1) N U) :
 LI L gl b5 (k+1) ((v.setCell ⟨b5,0,ν⟩ (σ aN N cN)).setCell ⟨b5+1,0,ν⟩ (σ aW N cW)):=by
 refine⟨N,U,aN,aW,cN,cW,Af (BW q5 _) (by omega),BW (Af q6 (by omega)) _,?_,ho,hr,hc⟩;have go:∀ {P:ο->Prop},Liv (λb=>b≠b5/\b≠b5+1) v P->Liv (λb=>b≠b5/\b≠b5+1) ((v.setCell ⟨b5,0,ν⟩ (σ aN N cN)).setCell ⟨b5+1,0,ν⟩ (σ aW N cW)) P:=λh=>(h.set (λh=>h.1 rfl)).set (λh=>h.2 rfl);exact(go ((hw.imp λ_ h=>h.1).later hb)).and ((go (hD.wide λb h _=>⟨by omega,by omega⟩)).and (go (hS.wide λb h _=>⟨by omega,by omega⟩)))
theorem SM.lb{w:ο}{d:St}{p:Sa}(h:SM w d p):Liv (λb=>b<w.heap.size) w (λv=>SM v d p):=λv k=>⟨h.tb,h.col,h.co.lb v k,h.va.lb v k,h.ex.lb v k,h.wh.lb v k,h.ou.lb v k,h.l2,h.l3,h.l5,h.l6,h.l7⟩
theorem Uy{B:Nat}{w w':ο}{r:Option Nat}(h:w.grownBy w' r)(hB:B<=w.heap.size)(hr:∀ q,r=ς q->B<=q):υ B w w':=⟨h.os,h.tape,h.output,h.size,λj hj=>h.block j (Nat.lt_of_lt_of_le hj hB) (λe=>by have:=hr j e.symm;omega)⟩
theorem P3(W:Nat->Itm)(n:Nat):BU (λk=>v3 (Dh W n k)) (n+1)=BU (λk=>v3 (W k)) n ++ [ι κ 11,ι κ 0,τ ⟨#[]⟩]:=by
 rw [Bs,Fe,Dy (f':=λk=>v3 (W k)) (λk hk=>by rw [Fd k hk])];rfl
theorem NS{n:Nat}{T:Nat->Td}{d:St}(h:A2 n T=true):(A8 n T d).1.length<=1000:=by
 unfold A8;split
 · exact VS _
 split
 · exact VS _
 rcases ht:An T d.tb n with _ | j
 · exact VS _
 dsimp only
 split
 · exact VS _
 ·
  have:=(CF ((Ax h).2 j (A4 ht).1)).2.2.2.1;have:=Il (C:=(T j).C) (n:=(T j).n) (R:=(T j).R) (W:=d.W) (n6:=d.n6) (m7:=d.m7) (O:=d.O) (n7:=d.n7) (k:=(T j).r);dsimp only
  omega
