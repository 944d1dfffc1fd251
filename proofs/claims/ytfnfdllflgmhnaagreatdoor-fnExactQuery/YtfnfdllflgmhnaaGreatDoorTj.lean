import Derived.Test.YtfnfdllflgmhnaaGreatDoorUd
import Derived.Test.YtfnfdllflgmhnaaGreatDoorUb
import Derived.Deep.RegionHeld3
import Derived.Test.YtfnfdllflgmhnaaGreatDoorNl
open Bool renaming and_eq_true → XV
open Go renaming Value → XU, World → ο, Calls → XR, bodyPost_ret → XL, cell_of_row → ε, frozen_of_row → ζ, heap_alloc_new → η, results_cell_row → Xd
open Go.Ending renaming returned → ρ
open Go.IntKind renaming i64 → κ
open Go.Obj renaming cells → γ
open Go.Op renaming bytesLess → Xh
open Go.Proofs.Tryz renaming prog → μ
open Go.RowKit renaming Below → υ, intOf → XX
open Go.RowKit.Below renaming refl → Xa
open Go.Value renaming int → ι, slice → σ, string → τ, agg → χ, bool → β
open List renaming length_append → XQ, length_take → Xf
open Nat renaming le_refl → XK, add_zero → Xm
open Option renaming none → ν, some → ς
open Option.some renaming inj → XM
namespace Go.Proofs.YtfnfdllflgmhnaaGreatDoor
open Go.RowKit Go.Maps Go.WideMaps
def d0:Itm:=⟨0,0,⟨#[]⟩⟩
def ES(C:Nat->Clm)(n:Nat)(R:Nat->Itm)(t:Itm)(a:List Itm):Itm:=
 if t.o=1 then ⟨1,t.m,⟨#[]⟩⟩
 else if t.o=2 then ⟨2,0,t.s⟩
 else if t.o=3 then (match Bo C t.s n with
  | some j=>R j
  | none=>d0)
 else DS t.o (a.getD 0 d0) (a.getD 1 d0)
def vl(C:Nat->Clm)(n:Nat)(R:Nat->Itm)(I:Nat->Itm):Nat->List Itm
 | 0=>[]
 | k+1=>(vl C n R I k).take ((vl C n R I k).length - DZ (I k).o) ++ [ES C n R (I k) ((vl C n R I k).drop ((vl C n R I k).length - DZ (I k).o))]
def Cn(C:Nat->Clm)(n:Nat)(R:Nat->Itm)(I:Nat->Itm)(m:Nat):Itm:=(vl C n R I m).getD 0 d0
theorem Fh{C:Nat->Clm}{n:Nat}{R I:Nat->Itm}:∀ {k:Nat} {d:Int},ex I k=ς d->(((vl C n R I k).length:Nat):Int)=d:=by
 intro k;induction k with
 | zero=>intro d h;simp [ex] at h;simp [vl,h]
 | succ k ih=>
  intro d h;rw [ex] at h;split at h
  · cases h
  ·
   rename_i x hx
   split at h
   ·
    rename_i hc
    cases h
    rw [vl];have:=ih hx;have ha:=EP (I k).o;have hl:=CF (I k).o;simp only [XQ,Xf,List.length_cons,List.length_nil]
    omega
   · cases h
def Cp(L:List Itm):Nat:=(L.map λx=>x.s.size).sum
theorem H9(A B:List Itm):Cp (A ++ B)=Cp A+Cp B:=by simp [Cp]
theorem Dw(x:Itm)(B:List Itm):Cp (x :: B)=x.s.size+Cp B:=by simp [Cp]
theorem Fl(L:List Itm)(j:Nat):Cp L=Cp (L.take j)+Cp (L.drop j):=by rw [←H9,List.take_append_drop]
theorem Fm{L:List Itm}{k:Nat}(h:k<L.length):(L.getD k d0).s.size<=Cp L:=by
 have e:L.getD k d0=L[k]:=by simp [h]
 rw [e,Fl L k,List.drop_eq_getElem_cons h,Dw];omega
theorem AaD(a:List Itm):(a.getD 0 d0).s.size+(a.getD 1 d0).s.size<=Cp a:=by
 match a with
 | []=>exact XK _
 | [x]=>exact XK _
 | x :: y :: r=>
  have:Cp (x :: y :: r)=x.s.size+(y.s.size+Cp r):=by rw [Dw,Dw]
  rw [this];show x.s.size+y.s.size<=_
  omega
theorem F5:(⟨#[]⟩:ByteArray).size=0:=rfl
theorem LI(o:Int)(x y:Itm):(DS o x y).s.size<=x.s.size+y.s.size:=by
 unfold DS N6;repeat' split
 all_goals simp only [F5,ByteArray.size_append]
 all_goals omega
theorem Dn{s:ByteArray}(h:BD s=true):s.size<=200:=by
 simp only [BD,XV,decide_eq_true_eq] at h
 omega
theorem NC{C:Nat->Clm}{n:Nat}{R:Nat->Itm}{t:Itm}(hR:∀ j,j<n->(R j).s.size<=200)(hok:Av t.o t.m t.s=true)(a:List Itm):(ES C n R t a).s.size<=200+Cp a:=by
 unfold ES;split
 · simp only [F5];omega
 ·
  rename_i h1
  split
  ·
   rename_i h2
   have:BD t.s=true:=by
    rw [h2] at hok;simp [Av,Bb] at hok
    exact hok.2
   have:=Dn this;simp only
   omega
  ·
   split
   ·
    split
    ·
     rename_i j hj
     have:=hR j (Cu hj).1;omega
    · simp only [d0,F5];omega
   · have h1:=LI t.o (a.getD 0 d0) (a.getD 1 d0);have h2:=AaD a;omega
theorem Iy{C:Nat->Clm}{n:Nat}{R I:Nat->Itm}(hR:∀ j,j<n->(R j).s.size<=200){m:Nat}{x:Int}(hx:ex I m=ς x):∀ k,k<=m->Cp (vl C n R I k)<=200 * k:=by
 intro k;induction k with
 | zero=>intro _;simp [vl,Cp]
 | succ k ih=>
  intro hk;obtain⟨d,hd,hok,had⟩:=F1 hx (show k<m by omega);have h1:=ih (by omega);have h2:=NC (C:=C) (n:=n) (R:=R) hR hok ((vl C n R I k).drop ((vl C n R I k).length - DZ (I k).o));have h3:=Fl (vl C n R I k) ((vl C n R I k).length - DZ (I k).o);rw [vl,H9,Dw];have:Cp []=0:=rfl;omega
theorem Nr{C:Nat->Clm}{n:Nat}{I:Nat->Itm}{m k:Nat}(hk:k<m)(h:(ck C n I m).2=0)(ho:(I k).o=3):∃ j,Bo C (I k).s n=ς j:=by
 rcases hc:Bo C (I k).s n with _ | j
 ·
  exfalso
  have h0:(ck C n I k).2=0:=by
   rcases Classical.em ((ck C n I k).2=0) with e | e
   · exact e
   · have:=D4 (C:=C) (n:=n) (I:=I) e m (by omega);rw [this] at h;exact absurd h e
  have h1:(ck C n I (k+1)).2=3:=by
   rw [ck,if_neg (by simp [h0])];have:(LY C n (I k) (ck C n I k).1).2=3:=by
    unfold LY Bk;rw [if_neg (by omega),if_pos ho,hc]
   rw [if_pos (by omega)];exact this
  have:=D4 (C:=C) (n:=n) (I:=I) (k:=k+1) (by omega) m (by omega);rw [this] at h;omega
 · exact⟨j,rfl⟩
def v3(x:Itm):List XU:=[ι κ x.o,ι κ x.m,τ x.s]
def A5:List Itm->List XU
 | []=>[]
 | x :: L=>v3 x ++ A5 L
theorem BG:∀ L:List Itm,(A5 L).length=L.length * 3
 | []=>rfl
 | x :: L=>by rw [A5,XQ,BG L];simp [v3];omega
theorem Fj:∀ A B:List Itm,A5 (A ++ B)=A5 A ++ A5 B
 | [],B=>rfl
 | x :: A,B=>by rw [List.cons_append,A5,A5,Fj A B,List.append_assoc]
theorem Af:∀ L:List Itm,∀ u∈A5 L,u.oneCell'=true
 | [],u,hu=>by cases hu
 | x :: L,u,hu=>by
  rw [A5,List.mem_append] at hu;rcases hu with hu | hu
  ·
   simp only [v3,List.mem_cons,List.not_mem_nil,or_false] at hu
   rcases hu with rfl | rfl | rfl <;> rfl
  · exact Af L u hu
theorem GT(L:List Itm)(j:Nat):A5 (L.take j) <+: A5 L:=by
 refine⟨A5 (L.drop j),?_⟩;rw [←Fj,List.take_append_drop]
theorem Hx:∀ {L:List Itm} {k:Nat},k<L.length->(A5 L)[k * 3]?=ς (ι κ (L.getD k d0).o)/\(A5 L)[k * 3+1]?=ς (ι κ (L.getD k d0).m)/\(A5 L)[k * 3+2]?=ς (τ (L.getD k d0).s)
 | x :: L,0,_=>⟨rfl,rfl,rfl⟩
 | x :: L,k+1,h=>by
  have e:=Hx (L:=L) (k:=k) (by simpa using h);rw [A5,show (k+1) * 3=(v3 x).length+k * 3 from by simp [v3];omega,Nat.add_assoc,Nat.add_assoc]
  rw [List.getElem?_append_right (by omega),List.getElem?_append_right (by omega),List.getElem?_append_right (by omega)];simpa using e
def Sv(w:ο)(base g cap:Nat)(L:List Itm):Prop:=w.ownsRow base 94 3 (σ (ς ⟨g,0,ν⟩) L.length cap) L.length (A5 L)
theorem Sv.at{w:ο}{base g cap:Nat}{L:List Itm}(h:Sv w base g cap L){j:Nat}(hj:j<L.length):w.cell? ⟨g,j * 3,ν⟩=ς (ι κ (L.getD j d0).o)/\w.cell? ⟨g,j * 3+1,ν⟩=ς (ι κ (L.getD j d0).m)/\w.cell? ⟨g,j * 3+2,ν⟩=ς (τ (L.getD j d0).s):=by
 obtain⟨h1,h2,h3⟩:=Hx hj;exact⟨(h.cellAt _ (by omega)).trans h1,(h.cellAt _ (by omega)).trans h2,(h.cellAt _ (by omega)).trans h3⟩
theorem Sv.il{w:ο}{base g cap:Nat}{L:List Itm}(h:Sv w base g cap L)(hs:Cp L<=1048576)(j:Nat):IL w (ς ⟨g,j * 3,ν⟩) (L.length - j) (λi=>L.getD (j+i) d0):=by
 intro k hk;obtain⟨h1,h2,h3⟩:=h.at (j:=j+k) (by omega);have hz:=Fm (L:=L) (k:=j+k) (by omega);refine⟨g,j * 3,rfl,?_,?_,?_,by show (L.getD (j+k) d0).s.size<=_;omega⟩
 · rw [←Nat.add_mul];exact h1
 · rw [←Nat.add_mul];exact h2
 · rw [←Nat.add_mul];exact h3
theorem Sv.news{w:ο}{base g cap:Nat}{L:List Itm}(h:Sv w base g cap L){j:Nat}:∀ i u,(A5 (L.take j))[i]?=ς u->w.cell? ((⟨g,0,ν⟩:Addr).add i)=ς u:=λi u hu=>by
 refine h.cells (g:=g) rfl i u ?_;obtain⟨r,hr⟩:=GT L j;rw [←hr];obtain⟨hi,-⟩:=List.getElem?_eq_some_iff.1 hu;rw [List.getElem?_append_left hi];exact hu
theorem Di{w4:ο}{base g4 cap4 j:Nat}{L:List Itm}{r:Itm}(hjl:j<=L.length)(h:w4.ownsRow base 94 3 (σ (ς ⟨g4,0,ν⟩) (j+1) cap4) (j+1) (A5 (L.take j) ++ v3 r)):(L.take j ++ [r]).length=j+1/\Sv w4 base g4 cap4 (L.take j ++ [r]):=by
 have e1:(L.take j ++ [r]).length=j+1:=by simp;omega
 refine⟨e1,?_⟩;unfold Sv;rw [e1,Fj];have:A5 [r]=v3 r:=by simp [A5]
 rw [this];exact h
theorem IM{w:ο}{base g cap:Nat}{L:List Itm}(h:Sv w base g cap L):L.length<=cap:=by
 rcases h.2 with ⟨e,-⟩ | ⟨g',cap',cur,e,-,-,h1,-⟩
 · simp at e
 ·
  simp only [Value.slice.injEq,Option.some.injEq,Addr.mk.injEq,and_true,true_and] at e
  omega
theorem gB{W a b:ο}{r:Nat}(h:υ W.heap.size W a)(g:a.grownBy b (ς r))(hB:W.heap.size<=r):υ W.heap.size W b:=GM h g (λx hx=>by have e:r=x:=XM hx;omega)
set_option maxRecDepth 20000
set_option maxHeartbeats 8000000
theorem R3(a:Option Addr)(m c:Nat)(I:Nat->Itm)(ox mx:Int)(sx:ByteArray)(oy my:Int)(sy:ByteArray)(w:ο)(h:IL w a m I)(hm:2<=m)(hm2:m<=1048576)(hx:I 0=⟨ox,mx,sx⟩)(hy:I 1=⟨oy,my,sy⟩) :
 XR μ 82 #[ι κ 9,σ a m c] w λe w'=>e=ρ (χ #[ι κ 1,ι κ (DJ (!decide (mx=0) && !decide (my=0))),τ ⟨#[]⟩])/\υ w.heap.size w w':=by
 have i0:(0:Int)<m:=by omega
 have i1:(1:Int)<m:=by omega
 obtain⟨b,off,rfl,c0,c1,c2,hs⟩:=h.later (AE w (γ #[ι κ 0,ι κ 0,τ ⟨#[]⟩] 94)) 0 (by omega);rw [hx] at c0 c1 c2 hs;simp only [Nat.zero_mul,Xm] at c0 c1 c2 hs
 obtain⟨b',off',e',d0,d1,d2,hs'⟩:=h.later (w':=((w.alloc (γ #[ι κ 0,ι κ 0,τ ⟨#[]⟩] 94)).alloc (γ #[ι κ ox,ι κ mx,τ sx] 94))) (AA (AE _ _) (AE _ _)) 1 (by omega);rw [hy] at d0 d1 d2 hs';simp only [Nat.one_mul] at d0 d1 d2 hs'
 clear hx hy;obtain⟨rfl,rfl⟩:b=b'/\off=off':=by simpa using e'
 clear e';have hb0:υ w.heap.size w (((w.alloc (γ #[ι κ 0,ι κ 0,τ ⟨#[]⟩] 94)).alloc (γ #[ι κ ox,ι κ mx,τ sx] 94)).alloc (γ #[ι κ oy,ι κ my,τ sy] 94)):=A7 _ _ _ _;have HR0:Hid ((((w.alloc (γ #[ι κ 0,ι κ 0,τ ⟨#[]⟩] 94)).alloc (γ #[ι κ ox,ι κ mx,τ sx] 94)).alloc (γ #[ι κ oy,ι κ my,τ sy] 94)).heap[w.heap.size]?=ς (γ #[ι κ 0,ι κ 0,τ ⟨#[]⟩] 94 (0,0))):=AC (AC (η w _) (AE _ _)) (AE _ _);by_cases h0:mx=0
 ·
  skip
  have HB:DJ (!decide (mx=0) && !decide (my=0))=DJ false:=by simp [h0]
  rw [HB];clear HB;subst h0;go_enter Tryz.func82,Tryz.ntmps82
  go_wp2_with (first | (go_at_call 136;refine(DW false _).mono ?_;rintro e w2 ⟨rfl,hb2⟩;have HR2:=AC HR0.out hb2;have r0:w2.cell? ⟨w.heap.size,0,ν⟩=ς (ι κ 0):=(ε _ _ 0 _ _ _ HR2).trans rfl;have rf0:w2.frozen? ⟨w.heap.size,0,ν⟩=false:=ζ _ _ 0 _ _ HR2;have r1:w2.cell? ⟨w.heap.size,1,ν⟩=ς (ι κ 0):=(ε _ _ 1 _ _ _ HR2).trans rfl;have rf1:w2.frozen? ⟨w.heap.size,1,ν⟩=false:=ζ _ _ 1 _ _ HR2;have r2:w2.cell? ⟨w.heap.size,2,ν⟩=ς (τ ⟨#[]⟩):=(ε _ _ 2 _ _ _ HR2).trans rfl;have rf2:w2.frozen? ⟨w.heap.size,2,ν⟩=false:=ζ _ _ 2 _ _ HR2;have B2:=AA hb0 hb2))
  exact XL (v:=χ #[ι κ 1,ι κ (DJ false),τ ⟨#[]⟩]) (Xd Tryz.results82 _ _ w.heap.size 94 _ (0,0) _ rfl (Cz HR2 _ _ _) Tryz.underlying94 rfl (by kernel_rfl)) rfl ⟨rfl,BB B2 (XK _) _ _ _⟩
 ·
  have n0:(mx == 0)=false:=by simpa using h0
  have b0:(mx != 0)=true:=by simpa using h0
  by_cases h1:my=0
  ·
   skip
   have HB:DJ (!decide (mx=0) && !decide (my=0))=DJ false:=by simp [h0,h1]
   rw [HB];clear HB;subst h1;go_enter Tryz.func82,Tryz.ntmps82
   go_wp2_with (first | (go_at_call 136;refine(DW false _).mono ?_;rintro e w2 ⟨rfl,hb2⟩;have HR2:=AC HR0.out hb2;have r0:w2.cell? ⟨w.heap.size,0,ν⟩=ς (ι κ 0):=(ε _ _ 0 _ _ _ HR2).trans rfl;have rf0:w2.frozen? ⟨w.heap.size,0,ν⟩=false:=ζ _ _ 0 _ _ HR2;have r1:w2.cell? ⟨w.heap.size,1,ν⟩=ς (ι κ 0):=(ε _ _ 1 _ _ _ HR2).trans rfl;have rf1:w2.frozen? ⟨w.heap.size,1,ν⟩=false:=ζ _ _ 1 _ _ HR2;have r2:w2.cell? ⟨w.heap.size,2,ν⟩=ς (τ ⟨#[]⟩):=(ε _ _ 2 _ _ _ HR2).trans rfl;have rf2:w2.frozen? ⟨w.heap.size,2,ν⟩=false:=ζ _ _ 2 _ _ HR2;have B2:=AA hb0 hb2))
   exact XL (v:=χ #[ι κ 1,ι κ (DJ false),τ ⟨#[]⟩]) (Xd Tryz.results82 _ _ w.heap.size 94 _ (0,0) _ rfl (Cz HR2 _ _ _) Tryz.underlying94 rfl (by kernel_rfl)) rfl ⟨rfl,BB B2 (XK _) _ _ _⟩
  ·
   have n1:(my == 0)=false:=by simpa using h1
   have b1:(my != 0)=true:=by simpa using h1
   have HB:DJ (!decide (mx=0) && !decide (my=0))=DJ true:=by simp [h0,h1]
   rw [HB];clear HB;go_enter Tryz.func82,Tryz.ntmps82
   go_wp2_with (first | (go_at_call 136;refine(DW true _).mono ?_;rintro e w2 ⟨rfl,hb2⟩;have HR2:=AC HR0.out hb2;have r0:w2.cell? ⟨w.heap.size,0,ν⟩=ς (ι κ 0):=(ε _ _ 0 _ _ _ HR2).trans rfl;have rf0:w2.frozen? ⟨w.heap.size,0,ν⟩=false:=ζ _ _ 0 _ _ HR2;have r1:w2.cell? ⟨w.heap.size,1,ν⟩=ς (ι κ 0):=(ε _ _ 1 _ _ _ HR2).trans rfl;have rf1:w2.frozen? ⟨w.heap.size,1,ν⟩=false:=ζ _ _ 1 _ _ HR2;have r2:w2.cell? ⟨w.heap.size,2,ν⟩=ς (τ ⟨#[]⟩):=(ε _ _ 2 _ _ _ HR2).trans rfl;have rf2:w2.frozen? ⟨w.heap.size,2,ν⟩=false:=ζ _ _ 2 _ _ HR2;have B2:=AA hb0 hb2))
   exact XL (v:=χ #[ι κ 1,ι κ (DJ true),τ ⟨#[]⟩]) (Xd Tryz.results82 _ _ w.heap.size 94 _ (0,0) _ rfl (Cz HR2 _ _ _) Tryz.underlying94 rfl (by kernel_rfl)) rfl ⟨rfl,BB B2 (XK _) _ _ _⟩
theorem Of(a:Option Addr)(m c:Nat)(I:Nat->Itm)(ox mx:Int)(sx:ByteArray)(oy my:Int)(sy:ByteArray)(w:ο)(h:IL w a m I)(hm:2<=m)(hm2:m<=1048576)(hx:I 0=⟨ox,mx,sx⟩)(hy:I 1=⟨oy,my,sy⟩) :
 XR μ 82 #[ι κ 10,σ a m c] w λe w'=>e=ρ (χ #[ι κ 1,ι κ (DJ (!decide (mx=0) || !decide (my=0))),τ ⟨#[]⟩])/\υ w.heap.size w w':=by
 have i0:(0:Int)<m:=by omega
 have i1:(1:Int)<m:=by omega
 obtain⟨b,off,rfl,c0,c1,c2,hs⟩:=h.later (AE w (γ #[ι κ 0,ι κ 0,τ ⟨#[]⟩] 94)) 0 (by omega);rw [hx] at c0 c1 c2 hs;simp only [Nat.zero_mul,Xm] at c0 c1 c2 hs
 obtain⟨b',off',e',d0,d1,d2,hs'⟩:=h.later (w':=((w.alloc (γ #[ι κ 0,ι κ 0,τ ⟨#[]⟩] 94)).alloc (γ #[ι κ ox,ι κ mx,τ sx] 94))) (AA (AE _ _) (AE _ _)) 1 (by omega);rw [hy] at d0 d1 d2 hs';simp only [Nat.one_mul] at d0 d1 d2 hs'
 clear hx hy;obtain⟨rfl,rfl⟩:b=b'/\off=off':=by simpa using e'
 clear e';have hb0:υ w.heap.size w (((w.alloc (γ #[ι κ 0,ι κ 0,τ ⟨#[]⟩] 94)).alloc (γ #[ι κ ox,ι κ mx,τ sx] 94)).alloc (γ #[ι κ oy,ι κ my,τ sy] 94)):=A7 _ _ _ _;have HR0:Hid ((((w.alloc (γ #[ι κ 0,ι κ 0,τ ⟨#[]⟩] 94)).alloc (γ #[ι κ ox,ι κ mx,τ sx] 94)).alloc (γ #[ι κ oy,ι κ my,τ sy] 94)).heap[w.heap.size]?=ς (γ #[ι κ 0,ι κ 0,τ ⟨#[]⟩] 94 (0,0))):=AC (AC (η w _) (AE _ _)) (AE _ _);by_cases h0:mx=0
 ·
  skip
  by_cases h1:my=0
  ·
   skip
   have HB:DJ (!decide (mx=0) || !decide (my=0))=DJ false:=by simp [h0,h1]
   rw [HB];clear HB;subst h0;subst h1;go_enter Tryz.func82,Tryz.ntmps82
   go_wp2_with (first | (go_at_call 136;refine(DW false _).mono ?_;rintro e w2 ⟨rfl,hb2⟩;have HR2:=AC HR0.out hb2;have r0:w2.cell? ⟨w.heap.size,0,ν⟩=ς (ι κ 0):=(ε _ _ 0 _ _ _ HR2).trans rfl;have rf0:w2.frozen? ⟨w.heap.size,0,ν⟩=false:=ζ _ _ 0 _ _ HR2;have r1:w2.cell? ⟨w.heap.size,1,ν⟩=ς (ι κ 0):=(ε _ _ 1 _ _ _ HR2).trans rfl;have rf1:w2.frozen? ⟨w.heap.size,1,ν⟩=false:=ζ _ _ 1 _ _ HR2;have r2:w2.cell? ⟨w.heap.size,2,ν⟩=ς (τ ⟨#[]⟩):=(ε _ _ 2 _ _ _ HR2).trans rfl;have rf2:w2.frozen? ⟨w.heap.size,2,ν⟩=false:=ζ _ _ 2 _ _ HR2;have B2:=AA hb0 hb2))
   exact XL (v:=χ #[ι κ 1,ι κ (DJ false),τ ⟨#[]⟩]) (Xd Tryz.results82 _ _ w.heap.size 94 _ (0,0) _ rfl (Cz HR2 _ _ _) Tryz.underlying94 rfl (by kernel_rfl)) rfl ⟨rfl,BB B2 (XK _) _ _ _⟩
  ·
   have n1:(my == 0)=false:=by simpa using h1
   have b1:(my != 0)=true:=by simpa using h1
   have HB:DJ (!decide (mx=0) || !decide (my=0))=DJ true:=by simp [h0,h1]
   rw [HB];clear HB;subst h0;go_enter Tryz.func82,Tryz.ntmps82
   go_wp2_with (first | (go_at_call 136;refine(DW true _).mono ?_;rintro e w2 ⟨rfl,hb2⟩;have HR2:=AC HR0.out hb2;have r0:w2.cell? ⟨w.heap.size,0,ν⟩=ς (ι κ 0):=(ε _ _ 0 _ _ _ HR2).trans rfl;have rf0:w2.frozen? ⟨w.heap.size,0,ν⟩=false:=ζ _ _ 0 _ _ HR2;have r1:w2.cell? ⟨w.heap.size,1,ν⟩=ς (ι κ 0):=(ε _ _ 1 _ _ _ HR2).trans rfl;have rf1:w2.frozen? ⟨w.heap.size,1,ν⟩=false:=ζ _ _ 1 _ _ HR2;have r2:w2.cell? ⟨w.heap.size,2,ν⟩=ς (τ ⟨#[]⟩):=(ε _ _ 2 _ _ _ HR2).trans rfl;have rf2:w2.frozen? ⟨w.heap.size,2,ν⟩=false:=ζ _ _ 2 _ _ HR2;have B2:=AA hb0 hb2))
   exact XL (v:=χ #[ι κ 1,ι κ (DJ true),τ ⟨#[]⟩]) (Xd Tryz.results82 _ _ w.heap.size 94 _ (0,0) _ rfl (Cz HR2 _ _ _) Tryz.underlying94 rfl (by kernel_rfl)) rfl ⟨rfl,BB B2 (XK _) _ _ _⟩
 ·
  have n0:(mx == 0)=false:=by simpa using h0
  have b0:(mx != 0)=true:=by simpa using h0
  have HB:DJ (!decide (mx=0) || !decide (my=0))=DJ true:=by simp [h0]
  rw [HB];clear HB;go_enter Tryz.func82,Tryz.ntmps82
  go_wp2_with (first | (go_at_call 136;refine(DW true _).mono ?_;rintro e w2 ⟨rfl,hb2⟩;have HR2:=AC HR0.out hb2;have r0:w2.cell? ⟨w.heap.size,0,ν⟩=ς (ι κ 0):=(ε _ _ 0 _ _ _ HR2).trans rfl;have rf0:w2.frozen? ⟨w.heap.size,0,ν⟩=false:=ζ _ _ 0 _ _ HR2;have r1:w2.cell? ⟨w.heap.size,1,ν⟩=ς (ι κ 0):=(ε _ _ 1 _ _ _ HR2).trans rfl;have rf1:w2.frozen? ⟨w.heap.size,1,ν⟩=false:=ζ _ _ 1 _ _ HR2;have r2:w2.cell? ⟨w.heap.size,2,ν⟩=ς (τ ⟨#[]⟩):=(ε _ _ 2 _ _ _ HR2).trans rfl;have rf2:w2.frozen? ⟨w.heap.size,2,ν⟩=false:=ζ _ _ 2 _ _ HR2;have B2:=AA hb0 hb2))
  exact XL (v:=χ #[ι κ 1,ι κ (DJ true),τ ⟨#[]⟩]) (Xd Tryz.results82 _ _ w.heap.size 94 _ (0,0) _ rfl (Cz HR2 _ _ _) Tryz.underlying94 rfl (by kernel_rfl)) rfl ⟨rfl,BB B2 (XK _) _ _ _⟩
theorem UQ(a:Option Addr)(m c:Nat)(I:Nat->Itm)(w:ο)(h:IL w a m I)(hm:2<=m)(hm2:m<=1048576) :
 XR μ 82 #[ι κ 9,σ a m c] w λe w'=>e=ρ (χ #[ι κ 1,ι κ (DJ (!decide ((I 0).m=0) && !decide ((I 1).m=0))),τ ⟨#[]⟩])/\υ w.heap.size w w':=R3 a m c I _ _ _ _ _ _ w h hm hm2 rfl rfl
theorem R7(a:Option Addr)(m c:Nat)(I:Nat->Itm)(w:ο)(h:IL w a m I)(hm:2<=m)(hm2:m<=1048576) :
 XR μ 82 #[ι κ 10,σ a m c] w λe w'=>e=ρ (χ #[ι κ 1,ι κ (DJ (!decide ((I 0).m=0) || !decide ((I 1).m=0))),τ ⟨#[]⟩])/\υ w.heap.size w w':=Of a m c I _ _ _ _ _ _ w h hm hm2 rfl rfl
theorem R2(o:Int)(a:Option Addr)(m c:Nat)(I:Nat->Itm)(w:ο)(h:IL w a m I)(hm:Aj o<=m)(hm2:m<=1048576)(h4:4<=o)(h13:o<=13) :
 XR μ 82 #[ι κ o,σ a m c] w λe w'=>e=ρ (χ #[ι κ (DS o (I 0) (I 1)).o,ι κ (DS o (I 0) (I 1)).m,τ (DS o (I 0) (I 1)).s])/\υ w.heap.size w w':=by
 by_cases e4:o=4
 · subst e4;exact UV a m c I w h (by simp [Aj] at hm;omega) hm2
 by_cases e5:o=5
 · subst e5;exact UU a m c I w h (by simp [Aj] at hm;omega) hm2
 by_cases e6:o=6
 · subst e6;exact UT a m c I w h (by simp [Aj] at hm;omega) hm2
 by_cases e7:o=7
 · subst e7;exact US a m c I w h (by simp [Aj] at hm;omega) hm2
 by_cases e8:o=8
 · subst e8;exact UR a m c I w h (by simp [Aj] at hm;omega) hm2
 by_cases e9:o=9
 · subst e9;exact UQ a m c I w h (by simp [Aj] at hm;omega) hm2
 by_cases e10:o=10
 · subst e10;exact R7 a m c I w h (by simp [Aj] at hm;omega) hm2
 by_cases e11:o=11
 · subst e11;exact R6 a m c I w h (by simp [Aj] at hm;omega) hm2
 by_cases e12:o=12
 · subst e12;exact R5 a m c I w h (by simp [Aj] at hm;omega) hm2
 by_cases e13:o=13
 · subst e13;exact R4 a m c I w h (by simp [Aj] at hm;omega) hm2
 omega
def BS(C:Nat->Clm)(k:Nat):Bool:=AV (C k).s && DR (C k).t && !Ah C (C k).s k
def A9(n:Nat)(C:Nat->Clm)(m:Nat->Nat)(R:Nat->Nat->Itm)(i:Nat):Bool:=
 decide (m i=n) && Aw (m i) (λj=>BU (R i j).o (R i j).m (R i j).s (C j).t) && (decide (i=0) || Cv (R (i - 1) 0).m (R (i - 1) 0).s (R i 0).m (R i 0).s)
def BZ(s:ByteArray)(n:Nat)(C:Nat->Clm)(r:Nat)(m:Nat->Nat)(R:Nat->Nat->Itm):Bool:=
 AV s && Bb n 1 20 && decide (r<=1000) && Aw n (BS C) && Aw r (A9 n C m R)
theorem CL.take{w:ο}{a:Option Addr}{n k:Nat}{C:Nat->Clm}(h:CL w a n C)(hk:k<=n):CL w a k C:=λj hj=>h j (by omega)
set_option maxHeartbeats 4000000
theorem KJ(s:ByteArray)(w:ο):XR μ 187 #[τ s] w λe w'=>e=ρ (β false)/\w'=w:=by
 have hq:=BH s;go_enter Tryz.func187,Tryz.ntmps187
 go_wp2;go_ret
 exact⟨rfl,rfl⟩
theorem ND(x:Int)(w:ο):XR μ 208 #[ι κ x] w λe w'=>e=ρ (β false)/\w'=w:=by
 have hq:(x == x)=true:=by simp
 go_enter Tryz.func208,Tryz.ntmps208
 go_wp2;go_ret
 exact⟨rfl,rfl⟩
theorem Ew(s s':ByteArray)(w:ο):XR μ 153 #[τ s,τ s'] w λe w'=>e=ρ (β (Xh s.toList s'.toList))/\w'=w:=by
 rcases hl:Xh s.toList s'.toList
 all_goals
  go_enter Tryz.func153,Tryz.ntmps153
  go_wp2_with (go_at_call 187;refine(KJ _ _).mono ?_;rintro e w1 ⟨rfl,rfl⟩)
  go_ret
  exact⟨rfl,rfl⟩
theorem F7(x y:Int)(w:ο):XR μ 186 #[ι κ x,ι κ y] w λe w'=>e=ρ (β (decide (x<y)))/\w'=w:=by
 by_cases hl:x<y
 ·
  have hd:decide (x<y)=true:=by simp [hl]
  go_enter Tryz.func186,Tryz.ntmps186
  go_wp2_with (go_at_call 208;refine(ND _ _).mono ?_;rintro e w1 ⟨rfl,rfl⟩)
  go_ret
  exact⟨AM hd.symm,rfl⟩
 ·
  have hd:decide (x<y)=false:=by simp [hl]
  go_enter Tryz.func186,Tryz.ntmps186
  go_wp2_with (go_at_call 208;refine(ND _ _).mono ?_;rintro e w1 ⟨rfl,rfl⟩)
  go_ret
  exact⟨AM hd.symm,rfl⟩
theorem Em(s:ByteArray)(x y:XU)(w:ο):XR μ 106 #[χ #[τ s,x,y]] w λe w'=>e=ρ (τ s)/\υ w.heap.size w w':=by
 go_enter Tryz.func106,Tryz.ntmps106
 go_wp2;go_ret
 exact⟨rfl,AE _ _⟩
theorem Fc(a:Option Addr)(n c:Nat)(I:Nat->Itm)(w:ο)(h:IL w a n I)(hn:0<n):XR μ 150 #[σ a n c] w λe w'=>e=ρ (ι κ (I 0).m)/\w'=w:=by
 obtain⟨b,off,rfl,d0,d1,d2,-⟩:=h 0 hn;have i0:(0:Int)<(n:Int):=by omega
 go_enter Tryz.func150,Tryz.ntmps150
 go_wp2;go_ret
 exact⟨rfl,rfl⟩
theorem El(a:Option Addr)(n c:Nat)(I:Nat->Itm)(w:ο)(h:IL w a n I)(hn:0<n):XR μ 152 #[σ a n c] w λe w'=>e=ρ (τ (I 0).s)/\w'=w:=by
 obtain⟨b,off,rfl,d0,d1,d2,-⟩:=h 0 hn;have i0:(0:Int)<(n:Int):=by omega
 go_enter Tryz.func152,Tryz.ntmps152
 go_wp2;go_ret
 exact⟨rfl,rfl⟩
theorem Pi(o m:Int)(s s':ByteArray)(t:Int)(w:ο):XR μ 195 #[χ #[ι κ o,ι κ m,τ s],χ #[τ s',ι κ t]] w λe w'=>e=ρ (β (o == t))/\υ w.heap.size w w':=by
 have hb0:=AA (AE w (γ #[ι κ o,ι κ m,τ s] 94)) (AE _ (γ #[τ s',ι κ t] 92));go_enter Tryz.func195,Tryz.ntmps195
 go_wp2;go_ret
 exact⟨rfl,hb0⟩
theorem CN(m:Int)(w:ο):XR μ 185 #[ι κ m] w λe w'=>e=ρ (χ #[ι κ 1,ι κ m,τ ⟨#[]⟩])/\υ w.heap.size w w':=by
 go_enter Tryz.func185,Tryz.ntmps185
 go_wp2;exact XL (v:=χ #[ι κ 1,ι κ m,τ ⟨#[]⟩]) (by simp [results,Tryz.results185,go_sem]) rfl ⟨rfl,AE _ _⟩
def Bz(n n':Nat)(I:Nat->Itm)(C:Nat->Clm):Bool:=decide (n=n') && Aw n (λj=>(I j).o == (C j).t)
theorem Pq(a:Option Addr)(n c:Nat)(I:Nat->Itm)(a':Option Addr)(n' c':Nat)(C:Nat->Clm)(w:ο)(h:IL w a n I)(h':CL w a' n' C)(hn:n<=1048576)(hn':n'<=1048576) :
 XR μ 194 #[σ a n c,σ a' n' c',.func (.func 195) #[] #[]] w λe w'=>e=ρ (β (Bz n n' I C))/\υ w.heap.size w w':=by
 have hb0:=Xa w.heap.size w;by_cases hq:n=n'
 rotate_left
 ·
  have hq':((n:Int) == (n':Int))=false:=by simp;omega
  have HF:Hid (Bz n n' I C=false):=by simp [Hid,Bz,hq]
  go_enter Tryz.func194,Tryz.ntmps194
  go_wp2;go_ret
  exact⟨AM HF.out.symm,hb0⟩
 subst hq;have hq':((n:Int) == (n:Int))=true:=by simp
 go_enter Tryz.func194,Tryz.ntmps194
 go_wp2;go_loopw [7,8,9,17] (λ_ _ _ i wr=>∃ k:Nat,k<=n/\i=ι κ k/\(∀ j,j<k->((I j).o == (C j).t)=true)/\υ w.heap.size w wr) (λ_ _ _ i _=>n - (XX i).toNat)
 case atStart=>exact⟨0,by omega,rfl,λj hj=>by omega,hb0⟩
 case round=>
  obtain⟨k,hk,rfl,hall,hb⟩:=hrel;by_cases hlt:k<n
  ·
   obtain⟨b,off,rfl,d0,d1,d2,-⟩:=h.later hb k hlt;obtain⟨b',off',rfl,e0,e1,-⟩:=h'.later hb k hlt;have hb1:=AA (AE wr (γ #[ι κ (I k).o,ι κ (I k).m,τ (I k).s] 94)) (AE _ (γ #[τ (C k).s,ι κ (C k).t] 92));have f0:=AB (AE wr (γ #[ι κ (I k).o,ι κ (I k).m,τ (I k).s] 94)) e0;have f1:=AB (AE wr (γ #[ι κ (I k).o,ι κ (I k).m,τ (I k).s] 94)) e1;go_wp2_with (go_at_call 195;refine(Pi _ _ _ _ _ _).mono ?_;rintro e w3 ⟨rfl,hb3⟩;replace hb3:=AA hb (AA hb1 hb3);rcases ho:((I k).o == (C k).t))
   ·
    go_ret
    exact⟨AM (by unfold Bz;rw [Ae hlt ho];simp),hb3⟩
   ·
    go_roundw
    case rel=>exact⟨k+1,by omega,by go_num,λi hi=>by
     by_cases e:i=k
     · subst e;exact ho
     · exact hall i (by omega),hb3⟩
    case measure=>simp [XX];omega
  ·
   obtain rfl:k=n:=by omega
   go_wp2;go_ret
   exact⟨AM (by unfold Bz;rw [Az hall];simp),hb⟩
theorem JG(a:Option Addr)(n c:Nat)(I:Nat->Itm)(a':Option Addr)(n' c':Nat)(C:Nat->Clm)(w:ο)(h:IL w a n I)(h':CL w a' n' C)(hn:n<=1048576)(hn':n'<=1048576) :
 XR μ 161 #[σ a n c,σ a' n' c'] w λe w'=>e=ρ (β (Bz n n' I C))/\υ w.heap.size w w':=by
 go_enter Tryz.func161,Tryz.ntmps161
 go_wp2_with (go_at_call 194;refine(Pq _ _ _ _ _ _ _ _ _ h h' hn hn').mono ?_;rintro e w1 ⟨rfl,hb1⟩)
 go_ret
 exact⟨rfl,hb1⟩
