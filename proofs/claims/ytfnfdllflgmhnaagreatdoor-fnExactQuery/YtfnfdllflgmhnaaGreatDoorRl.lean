import Derived.Test.YtfnfdllflgmhnaaGreatDoorEd
import Derived.Test.YtfnfdllflgmhnaaGreatDoorNl
import Derived.Test.YtfnfdllflgmhnaaGreatDoorEa
import Derived.Test.YtfnfdllflgmhnaaGreatDoorNg
import Derived.Lib.ItoaNum
import Derived.Lib.ItoaLen
import Derived.Deep.RegionHeld3
import Derived.Laws.DeepStrings4
open Bool renaming and_eq_true → XV
open Go renaming Calls → XR, World → ο, Value → XU, bodyPost_ret → XL, cell_of_row → ε, frozen_of_row → ζ, heap_alloc_new → η, heap_setCell_same → π, results_cell_row → Xd
open Go.Ending renaming returned → ρ
open Go.IntKind renaming i64 → κ
open Go.Obj renaming cells → γ
open Go.Proofs.Tryz renaming prog → μ
open Go.RowKit renaming Below → υ
open Go.Value renaming agg → χ, bool → β, int → ι, slice → σ, string → τ, pointer → ψ
open List renaming length_append → XQ
open Nat renaming le_refl → XK
open Option renaming some → ς, none → ν
open Or renaming inl → Xc, inr → Xi
namespace Go.Proofs.YtfnfdllflgmhnaaGreatDoor
open Go.RowKit
theorem C0{s:ByteArray}(h:AV s=true):s.size<=30:=by simp [AV,CI] at h;omega
theorem Fs{s:ByteArray}(h:BD s=true):s.size<=200:=by simp [BD] at h;omega
theorem JA{o m:Int}{s:ByteArray}(h:Av o m s=true):s.size<=200:=by
 simp only [Av,Bool.or_eq_true,XV,decide_eq_true_eq] at h
 rcases h with ((⟨-,h⟩ | ⟨-,h⟩) | ⟨-,h⟩) | ⟨-,h⟩
 · omega
 · exact Fs h
 · have:=C0 h;omega
 · omega
theorem IP{o m:Int}{s:ByteArray}(h:Ap o m s=true):s.size<=200:=by
 simp only [Ap,Bool.or_eq_true,XV,decide_eq_true_eq] at h
 rcases h with ⟨-,h⟩ | ⟨-,h⟩
 · omega
 · exact Fs h
theorem WJ{I:Nat->Itm}:∀ {n:Nat} {d:Int},ex I n=ς d->∀ j,j<n->(I j).s.size<=200:=by
 intro n;induction n with
 | zero=>intro d _ j hj;omega
 | succ n ih=>
  intro d h j hj;rw [ex] at h;split at h
  · cases h
  ·
   rename_i x hx
   split at h
   ·
    rename_i hc
    by_cases e:j=n
    · subst e;exact JA hc.1
    · exact ih hx j (by omega)
   · cases h
theorem E7{I:Nat->Itm}{n:Nat}(h:Ag I n=true):n<=100/\∀ j,j<n->(I j).s.size<=200:=by
 simp only [Ag,XV,decide_eq_true_eq] at h
 refine⟨?_,WJ h.2⟩;have:=h.1;simp [Bb] at this
 omega
theorem Dm{I:Nat->Itm}{n:Nat}(h:AR I n=true):n<=100/\∀ j,j<n->(I j).s.size<=200:=by
 simp only [AR,Bool.or_eq_true,decide_eq_true_eq] at h
 rcases h with rfl | h
 · exact⟨by omega,λj hj=>by omega⟩
 · exact E7 h
theorem Hp{n:Nat}(h:Bb n 1 20=true):n<=20:=by simp [Bb] at h;omega
theorem GB{n:Nat}{p:Nat->Bool}(h:Aw n p=true):∀ j,j<n->p j=true:=by
 unfold Aw at h;rw [List.all_eq_true] at h;exact λj hj=>h j (List.mem_range.2 hj)
theorem CB{D:St}(h:AL D=true):D.tb.size<=30:=by
 simp only [AL,XV] at h
 exact C0 h.1.1.1
theorem PZ{D:St}(h:AL D=true):D.k=1∨D.k=2∨D.k=3∨D.k=4∨D.k=5:=by
 by_cases e1:D.k=1
 · exact .inl e1
 by_cases e2:D.k=2
 · exact .inr (.inl e2)
 by_cases e3:D.k=3
 · exact .inr (.inr (.inl e3))
 by_cases e4:D.k=4
 · exact .inr (.inr (.inr (.inl e4)))
 by_cases e5:D.k=5
 · exact .inr (.inr (.inr (.inr e5)))
 rw [OT D e1 e2 e3 e4 e5] at h;cases h
theorem XC{D:St}(h:AL D=true)(e:D.k=1):D.n2<=20/\∀ j,j<D.n2->(D.C j).s.size<=30:=by
 rw [T7 D e] at h;simp only [XV] at h
 refine⟨Hp h.2.2.1,λj hj=>?_⟩;have:=GB h.2.2.2 j hj;simp only [Bx,XV] at this
 exact C0 this.1
theorem XB{D:St}(h:AL D=true)(e:D.k=2):D.n3<=20/\∀ j,j<D.n3->(D.V j).s.size<=200:=by
 rw [T6 D e] at h;simp only [XV] at h
 exact⟨Hp h.2.2.1,λj hj=>IP (GB h.2.2.2 j hj)⟩
theorem XA{D:St}(h:AL D=true)(e:D.k=3):D.col.size<=30/\(D.n5<=100/\∀ j,j<D.n5->(D.E j).s.size<=200)/\(D.n6<=100/\∀ j,j<D.n6->(D.W j).s.size<=200):=by
 rw [T5 D e] at h;simp only [XV] at h
 exact⟨C0 h.2.2.1.1,E7 h.2.2.1.2,Dm h.2.2.2⟩
theorem W9{D:St}(h:AL D=true)(e:D.k=4):D.n6<=100/\∀ j,j<D.n6->(D.W j).s.size<=200:=by
 rw [T4 D e] at h;simp only [XV] at h
 exact Dm h.2.2
theorem W8{D:St}(h:AL D=true)(e:D.k=5):D.n7<=20/\(∀ j,j<D.n7->D.m7 j<=100/\∀ q,q<D.m7 j->(D.O j q).s.size<=200)/\(D.n6<=100/\∀ j,j<D.n6->(D.W j).s.size<=200):=by
 rw [T3 D e] at h;simp only [XV] at h
 exact⟨Hp h.2.2.1.1,λj hj=>E7 (GB h.2.2.1.2 j hj),Dm h.2.2.2⟩
def FG(d:St):List UInt8:=
 if d.k=1 then AJ 1 d.n2 ++ AU (λj=>CZ (d.C j)) d.n2
 else if d.k=2 then AJ 1 d.n3 ++ AU (λj=>A4 (d.V j)) d.n3
 else if d.k=3 then s8 d.col ++ Am d.E d.n5 ++ Am d.W d.n6
 else if d.k=4 then Am d.W d.n6
 else (AJ 1 d.n7 ++ AU (λj=>Am (d.O j) (d.m7 j)) d.n7) ++ Am d.W d.n6
def Bl(d:St):List UInt8:=AJ 1 d.k ++ s8 d.tb ++ FG d
def BM(d:St):ByteArray:=if AL d=true then (if 60000<(bs (Bl d)).size then ⟨#[]⟩ else bs (Bl d)) else ⟨#[]⟩
theorem Cs{d:St}(h:AL d=false):BM d=⟨#[]⟩:=by simp [BM,h]
theorem DF{d:St}{s:ByteArray}(h:AL d=true)(e:s=bs (Bl d))(hs:60000<s.size):BM d=⟨#[]⟩:=by subst e;simp [BM,h,hs]
theorem Cg{d:St}{s:ByteArray}(h:AL d=true)(e:s=bs (Bl d))(hs:¬60000<s.size):BM d=s:=by subst e;simp [BM,h,hs]
theorem Gd(k:Int)(tb:ByteArray)(n2:Nat)(C:Nat->Clm)(n3:Nat)(V:Nat->Itm)(col:ByteArray)(n5:Nat)(E:Nat->Itm)(n6:Nat)(W:Nat->Itm)(n7:Nat)(m7:Nat->Nat)(O:Nat->Nat->Itm)
 (a2:Option Addr) (c2:Nat) (a3:Option Addr) (c3:Nat) (a5:Option Addr) (c5:Nat) (a6:Option Addr) (c6:Nat) (a7:Option Addr) (c7:Nat) (D:St) (hD:Hid ((⟨k,tb,n2,C,n3,V,col,n5,E,n6,W,n7,m7,O⟩:St)=D))
 (w:ο) (h:SM w ⟨k,tb,n2,C,n3,V,col,n5,E,n6,W,n7,m7,O⟩ ⟨a2,c2,a3,c3,a5,c5,a6,c6,a7,c7⟩) (hT:SpT w) :
 XR μ 54 #[χ #[ι κ k,τ tb,σ a2 n2 c2,σ a3 n3 c3,τ col,σ a5 n5 c5,σ a6 n6 c6,σ a7 n7 c7]] w λe w'=>e=ρ (β (AL D))/\υ w.heap.size w w':=by
 rw [←hD.out];exact Wm ⟨k,tb,n2,C,n3,V,col,n5,E,n6,W,n7,m7,O⟩ ⟨a2,c2,a3,c3,a5,c5,a6,c6,a7,c7⟩ w h hT
theorem GX(k:Int)(tb:ByteArray)(n2:Nat)(C:Nat->Clm)(n3:Nat)(V:Nat->Itm)(col:ByteArray)(n5:Nat)(E:Nat->Itm)(n6:Nat)(W:Nat->Itm)(n7:Nat)(m7:Nat->Nat)(O:Nat->Nat->Itm)
 (a2:Option Addr) (c2:Nat) (a3:Option Addr) (c3:Nat) (a5:Option Addr) (c5:Nat) (a6:Option Addr) (c6:Nat) (a7:Option Addr) (c7:Nat) (D:St) (hD:Hid ((⟨k,tb,n2,C,n3,V,col,n5,E,n6,W,n7,m7,O⟩:St)=D))
 (w:ο) (h:SM w ⟨k,tb,n2,C,n3,V,col,n5,E,n6,W,n7,m7,O⟩ ⟨a2,c2,a3,c3,a5,c5,a6,c6,a7,c7⟩) :
 XR μ 67 #[χ #[ι κ k,τ tb,σ a2 n2 c2,σ a3 n3 c3,τ col,σ a5 n5 c5,σ a6 n6 c6,σ a7 n7 c7]] w λe w'=>e=ρ (β (AL D))/\υ w.heap.size w w':=by
 rw [←hD.out];exact WY ⟨k,tb,n2,C,n3,V,col,n5,E,n6,W,n7,m7,O⟩ ⟨a2,c2,a3,c3,a5,c5,a6,c6,a7,c7⟩ w h
end Go.Proofs.YtfnfdllflgmhnaaGreatDoor
namespace Go.Proofs.YtfnfdllflgmhnaaGreatDoor
open Go.RowKit Go.Maps Go.WideMaps
def At(s:ByteArray)(a:Nat)(L:List UInt8):Prop:=a+L.length<=s.size/\∀ i (h:i<L.length),GA s (a+i)=L[i].toNat
theorem At.left{s:ByteArray}{a:Nat}{L M:List UInt8}(h:At s a (L ++ M)):At s a L:=by
 obtain⟨h1,h2⟩:=h;rw [XQ] at h1;refine⟨by omega,λi hi=>?_⟩;have:=h2 i (by rw [XQ];omega);rw [List.getElem_append_left hi] at this;exact this
theorem At.right{s:ByteArray}{a:Nat}{L M:List UInt8}(h:At s a (L ++ M)):At s (a+L.length) M:=by
 obtain⟨h1,h2⟩:=h;rw [XQ] at h1;refine⟨by omega,λi hi=>?_⟩;have:=h2 (L.length+i) (by rw [XQ];omega);rw [List.getElem_append_right (by omega)] at this;simp only [Nat.add_sub_cancel_left] at this
 rw [Nat.add_assoc];exact this
theorem Ti(s:ByteArray):At s 0 s.data.toList:=by
 refine⟨by simp,λi hi=>?_⟩;have hi':i<s.size:=by simpa using hi
 unfold GA;rw [dif_pos (by omega)];simp
 rfl
theorem M1(u m:Int):(u / 256 % m) * 256+u % 256=u % (m * 256):=by
 have e1:u / (m * 256)=u / 256 / m:=by rw [Int.mul_comm,Int.ediv_ediv_of_nonneg (by omega)]
 have e2:=Int.emod_def u (m * 256);have e3:=Int.emod_def (u / 256) m;have e4:=Int.emod_def u 256;rw [e2,e1,e3,e4,Int.sub_mul];have e5:m * (u / 256 / m) * 256=m * 256 * (u / 256 / m):=by rw [Int.mul_assoc,Int.mul_comm (u / 256 / m) 256,←Int.mul_assoc]
 rw [e5];omega
theorem Nw{s:ByteArray}{a k:Nat}{v:Int}(h:At s a (AJ k v)):∀ j,j<=k->((Hq s a j:Nat):Int)=v / 256 ^ (k - j) % 256 ^ j
 | 0,_=>by simp [Hq,Int.emod_one]
 | j+1,hj=>by
  have ih:=Nw h j (by omega);have hl:j<(AJ k v).length:=by rw [AG];omega
  have h2:=h.2 j hl;have h3:(AJ k v)[j]=Rd v (k - 1 - j):=by simp [AJ]
  rw [h3] at h2;have h4:=Ho v (k - 1 - j);rw [Hq,Int.natCast_add,Int.natCast_mul,ih,h2,h4];have e1:v / 256 ^ (k - j)=v / 256 ^ (k - 1 - j) / 256:=by
   rw [show k - j=(k - 1 - j)+1 by omega,Int.pow_succ,Int.ediv_ediv_of_nonneg (Int.pow_nonneg (by omega))]
  rw [e1,show k - (j+1)=k - 1 - j by omega,Int.pow_succ];exact M1 _ _
theorem DG{s:ByteArray}{a k:Nat}{v:Int}(h:At s a (AJ k v))(hv:wrap64 (v % 256 ^ k)=v):AD s k (ς a)=ς (a+k)/\AK s k (ς a)=v:=by
 have h1:=h.1;rw [AG] at h1;have h2:=Nw h k (XK _);simp only [AD,AK,if_pos h1]
 refine⟨trivial,?_⟩;rw [h2,Nat.sub_self,Int.pow_zero,Int.ediv_one];exact hv
theorem E1{v:Int}(h0:0<=v)(h1:v<256):wrap64 (v % 256 ^ 1)=v:=by
 have:(256:Int) ^ 1=256:=by decide
 rw [this];unfold wrap64;omega
theorem LR{v:Int}(h0:0<=v)(h1:v<65536):wrap64 (v % 256 ^ 2)=v:=by
 have:(256:Int) ^ 2=65536:=by decide
 rw [this];unfold wrap64;omega
theorem LQ{v:Int}(h0:-9223372036854775808<=v)(h1:v<=9223372036854775807):wrap64 (v % 256 ^ 8)=v:=by
 have:(256:Int) ^ 8=18446744073709551616:=by decide
 rw [this];unfold wrap64;omega
theorem Nc{s t:ByteArray}{a:Nat}(h:At s a t.data.toList):s.extract a (a+t.size)=t:=by
 have hl:t.data.toList.length=t.size:=by simp
 have h1:=h.1;rw [hl] at h1;apply ByteArray.ext_getElem
 · rw [ByteArray.size_extract];omega
 ·
  intro i hi hj;have h2:=h.2 i (by omega);unfold GA at h2;rw [dif_pos (by omega)] at h2;rw [ByteArray.getElem_extract];apply UInt8.toNat_inj.1
  rw [h2];simp
  rfl
theorem FY{s t:ByteArray}{a:Nat}(h:At s a (s8 t))(ht:t.size<=255):Ab s 1 (ς a)=ς (a+1+t.size)/\Ai s 1 (ς a)=t:=by
 have hn:=DG h.left (E1 (by omega) (by omega));have hr:=h.right;rw [AG] at hr;have h1:=hr.1;have hl:t.data.toList.length=t.size:=by simp
 rw [hl] at h1;unfold Ab Ai AY;rw [hn.1,hn.2];simp only [Int.toNat_natCast,GN,FV,if_pos h1]
 exact⟨trivial,Nc hr⟩
theorem JL{s t:ByteArray}{a:Nat}(h:At s a (IH t))(ht:t.size<=65535):Ab s 2 (ς a)=ς (a+2+t.size)/\Ai s 2 (ς a)=t:=by
 have hn:=DG h.left (LR (by omega) (by omega));have hr:=h.right;rw [AG] at hr;have h1:=hr.1;have hl:t.data.toList.length=t.size:=by simp
 rw [hl] at h1;unfold Ab Ai AY;rw [hn.1,hn.2];simp only [Int.toNat_natCast,GN,FV,if_pos h1]
 exact⟨trivial,Nc hr⟩
theorem BC(w:ο):υ w.heap.size w w.drew:=⟨rfl,rfl,rfl,XK _,λ_ _=>rfl⟩
def GI(x:Int):Prop:=-9223372036854775808<=x/\x<=9223372036854775807
structure RG(d:St):Prop where
 va:∀ j,j<d.n3->GI (d.V j).m
 ex:∀ j,j<d.n5->GI (d.E j).m
 wh:∀ j,j<d.n6->GI (d.W j).m
 ou:∀ k,k<d.n7->∀ j,j<d.m7 k->GI (d.O k j).m
theorem IT{s:ByteArray}(h:AV s=true):s.size<=30:=by
 simp [AV,CI] at h
 omega
theorem GC{n:Nat}{p:Nat->Bool}(h:Aw n p=true)(j:Nat)(hj:j<n):p j=true:=by
 rcases hq:p j
 · rw [Ae hj hq] at h;cases h
 · rfl
theorem Nu{n:Nat}(h:Bb n 1 20=true):n<=20:=by
 simp [Bb] at h
 omega
theorem S3{d:St}(h:AL d=true):d.tb.size<=30/\A6 d=true:=by
 simp only [AL,XV] at h
 exact⟨IT h.1.1.1,h.2⟩
theorem XG{d:St}(h:AL d=true):d.k=1∨d.k=2∨d.k=3∨d.k=4∨d.k=5:=by
 have:=(S3 h).2;unfold A6 at this;by_cases e1:d.k=1
 · exact .inl e1
 by_cases e2:d.k=2
 · exact .inr (.inl e2)
 by_cases e3:d.k=3
 · exact .inr (.inr (.inl e3))
 by_cases e4:d.k=4
 · exact .inr (.inr (.inr (.inl e4)))
 by_cases e5:d.k=5
 · exact .inr (.inr (.inr (.inr e5)))
 rw [if_neg e1,if_neg e2,if_neg e3,if_neg e4,if_neg e5] at this;cases this
theorem m3{d:St}(h:AL d=true)(e:d.k=3):d.col.size<=30/\Ag d.E d.n5=true/\AR d.W d.n6=true:=by
 have:=(S3 h).2;unfold A6 at this;rw [if_neg (by omega),if_neg (by omega),if_pos e,XV,XV] at this;exact⟨IT this.1.1,this.1.2,this.2⟩
theorem m4{d:St}(h:AL d=true)(e:d.k=4):AR d.W d.n6=true:=by
 have:=(S3 h).2;unfold A6 at this;rwa [if_neg (by omega),if_neg (by omega),if_neg (by omega),if_pos e] at this
theorem m5{d:St}(h:AL d=true)(e:d.k=5):d.n7<=20/\(∀ k,k<d.n7->Ag (d.O k) (d.m7 k)=true)/\True/\AR d.W d.n6=true:=by
 have:=(S3 h).2;unfold A6 at this;rw [if_neg (by omega),if_neg (by omega),if_neg (by omega),if_neg (by omega),if_pos e,XV,XV] at this;have h1:=λk hk=>GC this.1.2 k hk;exact⟨Nu this.1.1,h1,trivial,this.2⟩
theorem Ei{s:ByteArray}{a:Nat}{F:Nat->List UInt8}:∀ {n:Nat},At s a (AU F n)->∀ j,j<n->At s (a+(AU F j).length) (F j)
 | 0,_,j,hj=>by omega
 | n+1,h,j,hj=>by
  rw [AU] at h;by_cases e:j=n
  · subst e;exact h.right
  · exact Ei h.left j (by omega)
theorem Ha{s:ByteArray}{a n:Nat}{F:Nat->List UInt8}{f:Option Nat->Option Nat}(h:At s a (AU F n))(hf:∀ j,j<n->∀ b,At s b (F j)->f (ς b)=ς (b+(F j).length)):∀ j,j<=n->AO f (ς a) j=ς (a+(AU F j).length)
 | 0,_=>by simp [AO,AU]
 | j+1,hj=>by
  rw [AO,Ha h hf j (by omega),hf j (by omega) _ (Ei h j (by omega)),AU,XQ,Nat.add_assoc]
theorem F4{s:ByteArray}(h:s.size=0):s=⟨#[]⟩:=Bt (((BY s).2 h).trans ((BY ⟨#[]⟩).2 rfl).symm)
theorem NA{s:ByteArray}{a:Nat}{i:Itm}(h:At s a (Bh i))(hok:Av i.o i.m i.s=true)(hr:GI i.m):AZ s (ς a)=ς (a+(Bh i).length)/\An s (ς a)=i:=by
 obtain⟨o,m,t⟩:=i;dsimp only at hok hr
 unfold GI at hr;have ho:1<=o/\o<=13:=by
  simp [Av,Bb] at hok
  omega
 unfold Bh at h ⊢;dsimp only at h ⊢
 have hn:=DG h.left (E1 (by omega) (by omega));have hrr:=h.right;rw [AG] at hrr;unfold AZ An;rw [hn.1,hn.2,XQ,AG];by_cases e1:o=1
 ·
  subst e1;have hs:t.size=0:=by
   simp [Av,Bb] at hok
   rw [hok.2];rfl
  obtain rfl:=F4 hs;rw [if_pos rfl] at hrr;have h8:=DG hrr (LQ hr.1 hr.2);rw [if_pos rfl,if_pos rfl,if_pos rfl,h8.1,h8.2,AG];exact⟨rfl,rfl⟩
 by_cases e2:o=2
 ·
  subst e2;have hm:m=0/\t.size<=200:=by
   simp [Av,Bb,BD] at hok
   omega
  obtain⟨rfl,ht⟩:=hm;rw [if_neg e1,if_pos rfl] at hrr;have h8:=JL hrr (by omega);rw [if_neg e1,if_neg e1,if_neg e1,if_pos rfl,if_pos rfl,if_pos rfl,h8.1,h8.2,CR];exact⟨by congr 1;omega,rfl⟩
 by_cases e3:o=3
 ·
  subst e3;have hm:m=0/\t.size<=200:=by
   simp [Av,Bb,AV,CI] at hok
   omega
  obtain⟨rfl,ht⟩:=hm;rw [if_neg e1,if_neg e2,if_pos rfl] at hrr;have h8:=FY hrr (by omega);rw [if_neg e1,if_neg e1,if_neg e1,if_neg e2,if_neg e2,if_neg e2,if_pos rfl,if_pos rfl,if_pos rfl,h8.1,h8.2,As];exact⟨by congr 1;omega,rfl⟩
 ·
  have hm:m=0/\t.size=0:=by
   simp [Av,Bb,e1,e2,e3] at hok
   exact⟨hok.1.2,by rw [hok.2];rfl⟩
  obtain⟨rfl,ht⟩:=hm;obtain rfl:=F4 ht;rw [if_neg e1,if_neg e1,if_neg e1,if_neg e2,if_neg e2,if_neg e2,if_neg e3,if_neg e3,if_neg e3];exact⟨rfl,rfl⟩
theorem Nq{s:ByteArray}{a:Nat}{c:Clm}(h:At s a (CZ c))(hok:Bx c.s c.t=true):Ca s (ς a)=ς (a+(CZ c).length)/\Dh s (ς a)=c:=by
 obtain⟨n,t⟩:=c;dsimp only at hok
 simp only [Bx,XV] at hok
 have hn:=C0 hok.1;have ht:1<=t/\t<=2:=by
  have:=hok.2;simp [DR] at this
  omega
 unfold CZ at h ⊢;dsimp only at h ⊢
 have h1:=FY h.left (by omega);have hr:=h.right;rw [As,←Nat.add_assoc] at hr;have h2:=DG hr (E1 (by omega) (by omega));unfold Ca Dh;rw [h1.1,h1.2,h2.1,h2.2,XQ,As,AG];exact⟨by congr 1;omega,rfl⟩
theorem LS{s:ByteArray}{a:Nat}{i:Itm}(h:At s a (A4 i))(hok:Ap i.o i.m i.s=true)(hr:GI i.m):Be s (ς a)=ς (a+(A4 i).length)/\CO s (ς a)=i:=by
 obtain⟨o,m,t⟩:=i;dsimp only at hok hr
 unfold GI at hr;have ho:o=1∨o=2:=by
  simp [Ap] at hok
  omega
 unfold A4 at h ⊢;dsimp only at h ⊢
 have hn:=DG h.left (E1 (by omega) (by omega));have hrr:=h.right;rw [AG] at hrr;unfold Be CO;rw [hn.1,hn.2,XQ,AG];rcases ho with rfl | rfl
 ·
  have hs:t.size=0:=by
   simp [Ap] at hok
   rw [hok.2];rfl
  obtain rfl:=F4 hs;rw [if_pos rfl] at hrr;have h8:=DG hrr (LQ hr.1 hr.2);rw [if_pos rfl,if_pos rfl,if_pos rfl,h8.1,h8.2,AG];exact⟨rfl,rfl⟩
 ·
  have hm:m=0/\t.size<=200:=by
   simp [Ap,BD] at hok
   omega
  obtain⟨rfl,ht⟩:=hm;rw [if_neg (by omega)] at hrr;have h8:=JL hrr (by omega);rw [if_neg (by omega),if_neg (by omega),if_neg (by omega),h8.1,h8.2,CR];exact⟨by congr 1;omega,rfl⟩
theorem Il{I:Nat->Itm}:∀ {n:Nat} {d:Int},ex I n=ς d->∀ j,j<n->Av (I j).o (I j).m (I j).s=true
 | 0,_,_,j,hj=>by omega
 | n+1,d,h,j,hj=>by
  rw [ex] at h;cases hs:ex I n with
  | none=>rw [hs] at h;simp at h
  | some d'=>
   rw [hs] at h;by_cases e:j=n
   ·
    subst e;rcases hq:Av (I j).o (I j).m (I j).s
    · simp [hq] at h
    · rfl
   · exact Il hs j (by omega)
theorem FD{s:ByteArray}{a n:Nat}{I:Nat->Itm}(h:At s a (Am I n))(hn:n<=100)(hI:∀ j,j<n->Av (I j).o (I j).m (I j).s=true)(hr:∀ j,j<n->GI (I j).m) :
 AY s 2 (ς a)=n/\AD s 2 (ς a)=ς (a+2)/\AT s (ς a)=ς (a+(Am I n).length)/\∀ j,j<n->An s (AO (AZ s) (ς (a+2)) j)=I j:=by
 unfold Am at h ⊢;have hn2:=DG h.left (LR (by omega) (by omega));have hrr:=h.right;rw [AG] at hrr;have hl:=Ha (f:=AZ s) hrr (λj hj b hb=>(NA hb (hI j hj) (hr j hj)).1);have e1:AY s 2 (ς a)=n:=by unfold AY;rw [hn2.2];omega
 refine⟨e1,hn2.1,?_,λj hj=>?_⟩
 ·
  unfold AT;rw [hn2.1,e1,hl n (XK _),XQ,AG];congr 1
  omega
 · rw [hl j (by omega)];exact(NA (Ei hrr j hj) (hI j hj) (hr j hj)).2
set_option maxRecDepth 20000
set_option maxHeartbeats 8000000
def Same2(L R:Nat)(w w':ο):Prop:=∀ k,k≠L->k≠R->w'.heap[k]?=w.heap[k]?
theorem Same2.refl(L R:Nat)(w:ο):Same2 L R w w:=λ_ _ _=>rfl
theorem Same2.setL{L R i:Nat}{w w':ο}{v:XU}(h:Same2 L R w w'):Same2 L R w (w'.setCell ⟨L,i,ν⟩ v):=λk h1 h2=>(heap_setCell_other _ _ _ _ h1).trans (h k h1 h2)
theorem Same2.setR{L R i:Nat}{w w':ο}{v:XU}(h:Same2 L R w w'):Same2 L R w (w'.setCell ⟨R,i,ν⟩ v):=λk h1 h2=>(heap_setCell_other _ _ _ _ h2).trans (h k h1 h2)
theorem Ed{w w':ο}{base e size g n cap m L R:Nat}{xs:List XU}(h:w.ownsRow base e size (σ (ς ⟨g,0,ν⟩) n cap) m xs)(hs:Same2 L R w w')(h1:g≠L)(h2:g≠R):w'.ownsRow base e size (σ (ς ⟨g,0,ν⟩) n cap) m xs:=by
 obtain⟨hl,hh⟩:=h;refine⟨hl,?_⟩;rcases hh with hh | ⟨gg,cap',cur,e1,e2,e3,e4⟩
 · exact Xc hh
 ·
  have e5:g=gg:=by
   simp only [Value.slice.injEq,Option.some.injEq,Addr.mk.injEq,and_true] at e1
   exact e1.1
  subst e5;exact Xi ⟨g,cap',cur,e1,e2,(hs g h1 h2).trans e3,e4⟩
theorem PI.same{w w':ο}{B L R:Nat}{s:ByteArray}(hs:Same2 L R w w')(h1:B≠L)(h2:B≠R):∀ {p:Option Nat},PI w B s p->PI w' B s p
 | none,h=>(hs B h1 h2).trans h
 | some _,h=>⟨h.1,(hs B h1 h2).trans h.2⟩
theorem Gf{a b:ο}{r:Option Nat}(h:a.grownBy b r){R:Nat}(hR:a.heap.size<=R)(v0 v1 v2 v3 v4 v5 v6 v7:XU):a.grownBy ((((((((b.setCell ⟨R,0,ν⟩ v0).setCell ⟨R,1,ν⟩ v1).setCell ⟨R,2,ν⟩ v2).setCell ⟨R,3,ν⟩ v3).setCell ⟨R,4,ν⟩ v4).setCell ⟨R,5,ν⟩ v5).setCell ⟨R,6,ν⟩ v6).setCell ⟨R,7,ν⟩ v7) r:=
 Aq (Aq (Aq (Aq (Aq (Aq (Aq (Aq h hR) hR) hR) hR) hR) hR) hR) hR
theorem Lo(B:Nat)(s:ByteArray)(p:Option Nat)(w:ο)(h:PI w B s p)(hk:AK s 1 p=1) :
 XR μ 50 #[ψ (ς ⟨B,0,ν⟩)] w λe w'=>∃ m g cap,e=ρ (χ #[ι κ 1,τ (Ai s 1 (AD s 1 p)),σ (ς ⟨g,0,ν⟩) m cap,σ ν 0 0,τ ⟨#[]⟩,σ ν 0 0,σ ν 0 0,σ ν 0 0])/\w'.ownsRow w.heap.size 92 2 (σ (ς ⟨g,0,ν⟩) m cap) m (Bs (λj=>[τ (Dh s (AO (Ca s) (AD s 1 (Ab s 1 (AD s 1 p))) j)).s,ι κ (Dh s (AO (Ca s) (AD s 1 (Ab s 1 (AD s 1 p))) j)).t]) m)/\m<=AY s 1 (Ab s 1 (AD s 1 p))/\(m=AY s 1 (Ab s 1 (AD s 1 p))∨AO (Ca s) (AD s 1 (Ab s 1 (AD s 1 p))) m=ν)/\PI w' B s (AO (Ca s) (AD s 1 (Ab s 1 (AD s 1 p))) m)/\w.grownBy w' (ς B):=by
 have hlt:=h.lt;have hb0:=AE w (γ #[ι κ 0,τ ⟨#[]⟩,σ ν 0 0,σ ν 0 0,τ ⟨#[]⟩,σ ν 0 0,σ ν 0 0,σ ν 0 0] 64);have HR0:Hid ((w.alloc (γ #[ι κ 0,τ ⟨#[]⟩,σ ν 0 0,σ ν 0 0,τ ⟨#[]⟩,σ ν 0 0,σ ν 0 0,σ ν 0 0] 64)).heap[w.heap.size]?=ς (γ #[ι κ 0,τ ⟨#[]⟩,σ ν 0 0,σ ν 0 0,τ ⟨#[]⟩,σ ν 0 0,σ ν 0 0,σ ν 0 0] 64 (0,0))):=η w _;have hne:w.heap.size≠B:=by omega
 have hs0:(w.alloc (γ #[ι κ 0,τ ⟨#[]⟩,σ ν 0 0,σ ν 0 0,τ ⟨#[]⟩,σ ν 0 0,σ ν 0 0,σ ν 0 0] 64)).heap.size=w.heap.size+1:=by simp
 have hN:=Ct B s p 1 _ (h.later hb0) (by omega);rw [hk] at hN;clear hk;obtain⟨tb,htb⟩:∃ tb,Ai s 1 (AD s 1 p)=tb:=⟨_,rfl⟩;have hT:=λv hv=>Dq B s (AD s 1 p) 1 v hv (by omega);rw [htb] at hT ⊢;clear htb;go_enter Tryz.func50,Tryz.ntmps50
 go_wp2_with (first | (go_at_call 85;refine hN.mono ?_;rintro e w1 ⟨rfl,hP1,hg1⟩;have hR1:=AW HR0.out hg1 hne;have hs1:=hg1.size) | (go_at_call 86;refine(hT _ hP1).mono ?_;rintro e w2 ⟨rfl,hP2,hg2⟩;have hR2:=AW hR1 hg2 hne;have hs2:=hg2.size;have hne2:w.heap.size≠w2.heap.size:=(by omega);have hne3:w2.heap.size≠B:=(by omega);have HL3:Hid ((w2.alloc (γ #[ι κ 1,τ tb,σ ν 0 0,σ ν 0 0,τ ⟨#[]⟩,σ ν 0 0,σ ν 0 0,σ ν 0 0] 64)).heap[w2.heap.size]?=ς (γ #[ι κ 1,τ tb,σ ν 0 0,σ ν 0 0,τ ⟨#[]⟩,σ ν 0 0,σ ν 0 0,σ ν 0 0] 64 (0,0))):=η w2 _;have HR3:Hid ((w2.alloc (γ #[ι κ 1,τ tb,σ ν 0 0,σ ν 0 0,τ ⟨#[]⟩,σ ν 0 0,σ ν 0 0,σ ν 0 0] 64)).heap[w.heap.size]?=ς (γ #[ι κ 0,τ ⟨#[]⟩,σ ν 0 0,σ ν 0 0,τ ⟨#[]⟩,σ ν 0 0,σ ν 0 0,σ ν 0 0] 64 (0,0))):=AC hR2 (AE _ _);have hsA:(w2.alloc (γ #[ι κ 1,τ tb,σ ν 0 0,σ ν 0 0,τ ⟨#[]⟩,σ ν 0 0,σ ν 0 0,σ ν 0 0] 64)).heap.size=w2.heap.size+1:=(by simp);clear hR1 hR2) | (go_at_call 87;refine(Po B s (Ab s 1 (AD s 1 p)) 1 _ (hP2.later (AE _ _)) (by omega)).mono ?_;rintro e w3 ⟨m,g,cap,rfl,hO,hrest1,hrest2,hP3,hg3⟩;have hs3:=hg3.size;have lR:Hid (w3.heap[w2.heap.size]?=ς (γ #[ι κ 1,τ tb,σ ν 0 0,σ ν 0 0,τ ⟨#[]⟩,σ ν 0 0,σ ν 0 0,σ ν 0 0] 64 (0,0))):=AW HL3.out hg3 hne3;have rR:Hid (w3.heap[w.heap.size]?=ς (γ #[ι κ 0,τ ⟨#[]⟩,σ ν 0 0,σ ν 0 0,τ ⟨#[]⟩,σ ν 0 0,σ ν 0 0,σ ν 0 0] 64 (0,0))):=AW HR3.out hg3 hne;have l0:w3.cell? ⟨w2.heap.size,0,ν⟩=ς (ι κ 1):=(ε _ _ 0 _ _ _ lR.out).trans rfl;have lf0:w3.frozen? ⟨w2.heap.size,0,ν⟩=false:=ζ _ _ 0 _ _ lR.out;have l1:w3.cell? ⟨w2.heap.size,1,ν⟩=ς (τ tb):=(ε _ _ 1 _ _ _ lR.out).trans rfl;have lf1:w3.frozen? ⟨w2.heap.size,1,ν⟩=false:=ζ _ _ 1 _ _ lR.out;have l2:w3.cell? ⟨w2.heap.size,2,ν⟩=ς (σ ν 0 0):=(ε _ _ 2 _ _ _ lR.out).trans rfl;have lf2:w3.frozen? ⟨w2.heap.size,2,ν⟩=false:=ζ _ _ 2 _ _ lR.out;have l3:w3.cell? ⟨w2.heap.size,3,ν⟩=ς (σ ν 0 0):=(ε _ _ 3 _ _ _ lR.out).trans rfl;have lf3:w3.frozen? ⟨w2.heap.size,3,ν⟩=false:=ζ _ _ 3 _ _ lR.out;have l4:w3.cell? ⟨w2.heap.size,4,ν⟩=ς (τ ⟨#[]⟩):=(ε _ _ 4 _ _ _ lR.out).trans rfl;have lf4:w3.frozen? ⟨w2.heap.size,4,ν⟩=false:=ζ _ _ 4 _ _ lR.out;have l5:w3.cell? ⟨w2.heap.size,5,ν⟩=ς (σ ν 0 0):=(ε _ _ 5 _ _ _ lR.out).trans rfl;have lf5:w3.frozen? ⟨w2.heap.size,5,ν⟩=false:=ζ _ _ 5 _ _ lR.out;have l6:w3.cell? ⟨w2.heap.size,6,ν⟩=ς (σ ν 0 0):=(ε _ _ 6 _ _ _ lR.out).trans rfl;have lf6:w3.frozen? ⟨w2.heap.size,6,ν⟩=false:=ζ _ _ 6 _ _ lR.out;have l7:w3.cell? ⟨w2.heap.size,7,ν⟩=ς (σ ν 0 0):=(ε _ _ 7 _ _ _ lR.out).trans rfl;have lf7:w3.frozen? ⟨w2.heap.size,7,ν⟩=false:=ζ _ _ 7 _ _ lR.out;have r0:w3.cell? ⟨w.heap.size,0,ν⟩=ς (ι κ 0):=(ε _ _ 0 _ _ _ rR.out).trans rfl;have rf0:w3.frozen? ⟨w.heap.size,0,ν⟩=false:=ζ _ _ 0 _ _ rR.out;have r1:w3.cell? ⟨w.heap.size,1,ν⟩=ς (τ ⟨#[]⟩):=(ε _ _ 1 _ _ _ rR.out).trans rfl;have rf1:w3.frozen? ⟨w.heap.size,1,ν⟩=false:=ζ _ _ 1 _ _ rR.out;have r2:w3.cell? ⟨w.heap.size,2,ν⟩=ς (σ ν 0 0):=(ε _ _ 2 _ _ _ rR.out).trans rfl;have rf2:w3.frozen? ⟨w.heap.size,2,ν⟩=false:=ζ _ _ 2 _ _ rR.out;have r3:w3.cell? ⟨w.heap.size,3,ν⟩=ς (σ ν 0 0):=(ε _ _ 3 _ _ _ rR.out).trans rfl;have rf3:w3.frozen? ⟨w.heap.size,3,ν⟩=false:=ζ _ _ 3 _ _ rR.out;have r4:w3.cell? ⟨w.heap.size,4,ν⟩=ς (τ ⟨#[]⟩):=(ε _ _ 4 _ _ _ rR.out).trans rfl;have rf4:w3.frozen? ⟨w.heap.size,4,ν⟩=false:=ζ _ _ 4 _ _ rR.out;have r5:w3.cell? ⟨w.heap.size,5,ν⟩=ς (σ ν 0 0):=(ε _ _ 5 _ _ _ rR.out).trans rfl;have rf5:w3.frozen? ⟨w.heap.size,5,ν⟩=false:=ζ _ _ 5 _ _ rR.out;have r6:w3.cell? ⟨w.heap.size,6,ν⟩=ς (σ ν 0 0):=(ε _ _ 6 _ _ _ rR.out).trans rfl;have rf6:w3.frozen? ⟨w.heap.size,6,ν⟩=false:=ζ _ _ 6 _ _ rR.out;have r7:w3.cell? ⟨w.heap.size,7,ν⟩=ς (σ ν 0 0):=(ε _ _ 7 _ _ _ rR.out).trans rfl;have rf7:w3.frozen? ⟨w.heap.size,7,ν⟩=false:=ζ _ _ 7 _ _ rR.out))
 have hgb:=(hO.lt g rfl).1;have RV:=λv v0 v1 v2 v3 v4 v5 v6 v7=>π _ _ 7 _ _ v7 (π _ _ 6 _ _ v6 (π _ _ 5 _ _ v5 (π _ _ 4 _ _ v4 (π _ _ 3 _ _ v3 (π _ _ 2 _ _ v2 (π _ _ 1 _ _ v1 (π _ _ 0 _ _ v0 (AS (B:=w2.heap.size) (B':=w.heap.size) (i:=2) (v:=v) rR.out hne2))))))));have hG:w.grownBy w3 (ς B):=AQ (Fd (AQ (AQ (BK hb0 _) hg1) hg2) _) hg3;have SM2:=λv v0 v1 v2 v3 v4 v5 v6 v7=>Same2.setR (i:=7) (v:=v7) (Same2.setR (i:=6) (v:=v6) (Same2.setR (i:=5) (v:=v5) (Same2.setR (i:=4) (v:=v4) (Same2.setR (i:=3) (v:=v3) (Same2.setR (i:=2) (v:=v2) (Same2.setR (i:=1) (v:=v1) (Same2.setR (i:=0) (v:=v0) (Same2.setL (i:=2) (v:=v) (Same2.refl w2.heap.size w.heap.size w3)))))))));refine XL (v:=χ #[ι κ 1,τ tb,σ (ς ⟨g,0,ν⟩) m cap,σ ν 0 0,τ ⟨#[]⟩,σ ν 0 0,σ ν 0 0,σ ν 0 0]) (Xd Tryz.results50 _ _ w.heap.size 64 _ (0,0) _ rfl (RV _ _ _ _ _ _ _ _ _) Tryz.underlying64 rfl (by kernel_rfl)) rfl ⟨m,g,cap,rfl,?_,hrest1,hrest2,PI.same (SM2 _ _ _ _ _ _ _ _ _) hne3.symm hne.symm hP3,Gf (Aq hG (by omega)) (XK _) _ _ _ _ _ _ _ _⟩;exact Ck (Ed hO (SM2 _ _ _ _ _ _ _ _ _) (by omega) (by omega)) (by omega)
theorem Ln(B:Nat)(s:ByteArray)(p:Option Nat)(w:ο)(h:PI w B s p)(hk:AK s 1 p=2) :
 XR μ 50 #[ψ (ς ⟨B,0,ν⟩)] w λe w'=>∃ m g cap,e=ρ (χ #[ι κ 2,τ (Ai s 1 (AD s 1 p)),σ ν 0 0,σ (ς ⟨g,0,ν⟩) m cap,τ ⟨#[]⟩,σ ν 0 0,σ ν 0 0,σ ν 0 0])/\w'.ownsRow w.heap.size 94 3 (σ (ς ⟨g,0,ν⟩) m cap) m (Bs (λj=>[ι κ (CO s (AO (Be s) (AD s 1 (Ab s 1 (AD s 1 p))) j)).o,ι κ (CO s (AO (Be s) (AD s 1 (Ab s 1 (AD s 1 p))) j)).m,τ (CO s (AO (Be s) (AD s 1 (Ab s 1 (AD s 1 p))) j)).s]) m)/\m<=AY s 1 (Ab s 1 (AD s 1 p))/\(m=AY s 1 (Ab s 1 (AD s 1 p))∨AO (Be s) (AD s 1 (Ab s 1 (AD s 1 p))) m=ν)/\PI w' B s (AO (Be s) (AD s 1 (Ab s 1 (AD s 1 p))) m)/\w.grownBy w' (ς B):=by
 have hlt:=h.lt;have hb0:=AE w (γ #[ι κ 0,τ ⟨#[]⟩,σ ν 0 0,σ ν 0 0,τ ⟨#[]⟩,σ ν 0 0,σ ν 0 0,σ ν 0 0] 64);have HR0:Hid ((w.alloc (γ #[ι κ 0,τ ⟨#[]⟩,σ ν 0 0,σ ν 0 0,τ ⟨#[]⟩,σ ν 0 0,σ ν 0 0,σ ν 0 0] 64)).heap[w.heap.size]?=ς (γ #[ι κ 0,τ ⟨#[]⟩,σ ν 0 0,σ ν 0 0,τ ⟨#[]⟩,σ ν 0 0,σ ν 0 0,σ ν 0 0] 64 (0,0))):=η w _;have hne:w.heap.size≠B:=by omega
 have hs0:(w.alloc (γ #[ι κ 0,τ ⟨#[]⟩,σ ν 0 0,σ ν 0 0,τ ⟨#[]⟩,σ ν 0 0,σ ν 0 0,σ ν 0 0] 64)).heap.size=w.heap.size+1:=by simp
 have hN:=Ct B s p 1 _ (h.later hb0) (by omega);rw [hk] at hN;clear hk;obtain⟨tb,htb⟩:∃ tb,Ai s 1 (AD s 1 p)=tb:=⟨_,rfl⟩;have hT:=λv hv=>Dq B s (AD s 1 p) 1 v hv (by omega);rw [htb] at hT ⊢;clear htb;go_enter Tryz.func50,Tryz.ntmps50
 go_wp2_with (first | (go_at_call 85;refine hN.mono ?_;rintro e w1 ⟨rfl,hP1,hg1⟩;have hR1:=AW HR0.out hg1 hne;have hs1:=hg1.size) | (go_at_call 86;refine(hT _ hP1).mono ?_;rintro e w2 ⟨rfl,hP2,hg2⟩;have hR2:=AW hR1 hg2 hne;have hs2:=hg2.size;have hne2:w.heap.size≠w2.heap.size:=(by omega);have hne3:w2.heap.size≠B:=(by omega);have HL3:Hid ((w2.alloc (γ #[ι κ 2,τ tb,σ ν 0 0,σ ν 0 0,τ ⟨#[]⟩,σ ν 0 0,σ ν 0 0,σ ν 0 0] 64)).heap[w2.heap.size]?=ς (γ #[ι κ 2,τ tb,σ ν 0 0,σ ν 0 0,τ ⟨#[]⟩,σ ν 0 0,σ ν 0 0,σ ν 0 0] 64 (0,0))):=η w2 _;have HR3:Hid ((w2.alloc (γ #[ι κ 2,τ tb,σ ν 0 0,σ ν 0 0,τ ⟨#[]⟩,σ ν 0 0,σ ν 0 0,σ ν 0 0] 64)).heap[w.heap.size]?=ς (γ #[ι κ 0,τ ⟨#[]⟩,σ ν 0 0,σ ν 0 0,τ ⟨#[]⟩,σ ν 0 0,σ ν 0 0,σ ν 0 0] 64 (0,0))):=AC hR2 (AE _ _);have hsA:(w2.alloc (γ #[ι κ 2,τ tb,σ ν 0 0,σ ν 0 0,τ ⟨#[]⟩,σ ν 0 0,σ ν 0 0,σ ν 0 0] 64)).heap.size=w2.heap.size+1:=(by simp);clear hR1 hR2) | (go_at_call 89;refine(Pk B s (Ab s 1 (AD s 1 p)) 1 _ (hP2.later (AE _ _)) (by omega)).mono ?_;rintro e w3 ⟨m,g,cap,rfl,hO,hrest1,hrest2,hP3,hg3⟩;have hs3:=hg3.size;have lR:Hid (w3.heap[w2.heap.size]?=ς (γ #[ι κ 2,τ tb,σ ν 0 0,σ ν 0 0,τ ⟨#[]⟩,σ ν 0 0,σ ν 0 0,σ ν 0 0] 64 (0,0))):=AW HL3.out hg3 hne3;have rR:Hid (w3.heap[w.heap.size]?=ς (γ #[ι κ 0,τ ⟨#[]⟩,σ ν 0 0,σ ν 0 0,τ ⟨#[]⟩,σ ν 0 0,σ ν 0 0,σ ν 0 0] 64 (0,0))):=AW HR3.out hg3 hne;have l0:w3.cell? ⟨w2.heap.size,0,ν⟩=ς (ι κ 2):=(ε _ _ 0 _ _ _ lR.out).trans rfl;have lf0:w3.frozen? ⟨w2.heap.size,0,ν⟩=false:=ζ _ _ 0 _ _ lR.out;have l1:w3.cell? ⟨w2.heap.size,1,ν⟩=ς (τ tb):=(ε _ _ 1 _ _ _ lR.out).trans rfl;have lf1:w3.frozen? ⟨w2.heap.size,1,ν⟩=false:=ζ _ _ 1 _ _ lR.out;have l2:w3.cell? ⟨w2.heap.size,2,ν⟩=ς (σ ν 0 0):=(ε _ _ 2 _ _ _ lR.out).trans rfl;have lf2:w3.frozen? ⟨w2.heap.size,2,ν⟩=false:=ζ _ _ 2 _ _ lR.out;have l3:w3.cell? ⟨w2.heap.size,3,ν⟩=ς (σ ν 0 0):=(ε _ _ 3 _ _ _ lR.out).trans rfl;have lf3:w3.frozen? ⟨w2.heap.size,3,ν⟩=false:=ζ _ _ 3 _ _ lR.out;have l4:w3.cell? ⟨w2.heap.size,4,ν⟩=ς (τ ⟨#[]⟩):=(ε _ _ 4 _ _ _ lR.out).trans rfl;have lf4:w3.frozen? ⟨w2.heap.size,4,ν⟩=false:=ζ _ _ 4 _ _ lR.out;have l5:w3.cell? ⟨w2.heap.size,5,ν⟩=ς (σ ν 0 0):=(ε _ _ 5 _ _ _ lR.out).trans rfl;have lf5:w3.frozen? ⟨w2.heap.size,5,ν⟩=false:=ζ _ _ 5 _ _ lR.out;have l6:w3.cell? ⟨w2.heap.size,6,ν⟩=ς (σ ν 0 0):=(ε _ _ 6 _ _ _ lR.out).trans rfl;have lf6:w3.frozen? ⟨w2.heap.size,6,ν⟩=false:=ζ _ _ 6 _ _ lR.out;have l7:w3.cell? ⟨w2.heap.size,7,ν⟩=ς (σ ν 0 0):=(ε _ _ 7 _ _ _ lR.out).trans rfl;have lf7:w3.frozen? ⟨w2.heap.size,7,ν⟩=false:=ζ _ _ 7 _ _ lR.out;have r0:w3.cell? ⟨w.heap.size,0,ν⟩=ς (ι κ 0):=(ε _ _ 0 _ _ _ rR.out).trans rfl;have rf0:w3.frozen? ⟨w.heap.size,0,ν⟩=false:=ζ _ _ 0 _ _ rR.out;have r1:w3.cell? ⟨w.heap.size,1,ν⟩=ς (τ ⟨#[]⟩):=(ε _ _ 1 _ _ _ rR.out).trans rfl;have rf1:w3.frozen? ⟨w.heap.size,1,ν⟩=false:=ζ _ _ 1 _ _ rR.out;have r2:w3.cell? ⟨w.heap.size,2,ν⟩=ς (σ ν 0 0):=(ε _ _ 2 _ _ _ rR.out).trans rfl;have rf2:w3.frozen? ⟨w.heap.size,2,ν⟩=false:=ζ _ _ 2 _ _ rR.out;have r3:w3.cell? ⟨w.heap.size,3,ν⟩=ς (σ ν 0 0):=(ε _ _ 3 _ _ _ rR.out).trans rfl;have rf3:w3.frozen? ⟨w.heap.size,3,ν⟩=false:=ζ _ _ 3 _ _ rR.out;have r4:w3.cell? ⟨w.heap.size,4,ν⟩=ς (τ ⟨#[]⟩):=(ε _ _ 4 _ _ _ rR.out).trans rfl;have rf4:w3.frozen? ⟨w.heap.size,4,ν⟩=false:=ζ _ _ 4 _ _ rR.out;have r5:w3.cell? ⟨w.heap.size,5,ν⟩=ς (σ ν 0 0):=(ε _ _ 5 _ _ _ rR.out).trans rfl;have rf5:w3.frozen? ⟨w.heap.size,5,ν⟩=false:=ζ _ _ 5 _ _ rR.out;have r6:w3.cell? ⟨w.heap.size,6,ν⟩=ς (σ ν 0 0):=(ε _ _ 6 _ _ _ rR.out).trans rfl;have rf6:w3.frozen? ⟨w.heap.size,6,ν⟩=false:=ζ _ _ 6 _ _ rR.out;have r7:w3.cell? ⟨w.heap.size,7,ν⟩=ς (σ ν 0 0):=(ε _ _ 7 _ _ _ rR.out).trans rfl;have rf7:w3.frozen? ⟨w.heap.size,7,ν⟩=false:=ζ _ _ 7 _ _ rR.out))
 have hgb:=(hO.lt g rfl).1;have RV:=λv v0 v1 v2 v3 v4 v5 v6 v7=>π _ _ 7 _ _ v7 (π _ _ 6 _ _ v6 (π _ _ 5 _ _ v5 (π _ _ 4 _ _ v4 (π _ _ 3 _ _ v3 (π _ _ 2 _ _ v2 (π _ _ 1 _ _ v1 (π _ _ 0 _ _ v0 (AS (B:=w2.heap.size) (B':=w.heap.size) (i:=3) (v:=v) rR.out hne2))))))));have hG:w.grownBy w3 (ς B):=AQ (Fd (AQ (AQ (BK hb0 _) hg1) hg2) _) hg3;have SM2:=λv v0 v1 v2 v3 v4 v5 v6 v7=>Same2.setR (i:=7) (v:=v7) (Same2.setR (i:=6) (v:=v6) (Same2.setR (i:=5) (v:=v5) (Same2.setR (i:=4) (v:=v4) (Same2.setR (i:=3) (v:=v3) (Same2.setR (i:=2) (v:=v2) (Same2.setR (i:=1) (v:=v1) (Same2.setR (i:=0) (v:=v0) (Same2.setL (i:=3) (v:=v) (Same2.refl w2.heap.size w.heap.size w3)))))))));refine XL (v:=χ #[ι κ 2,τ tb,σ ν 0 0,σ (ς ⟨g,0,ν⟩) m cap,τ ⟨#[]⟩,σ ν 0 0,σ ν 0 0,σ ν 0 0]) (Xd Tryz.results50 _ _ w.heap.size 64 _ (0,0) _ rfl (RV _ _ _ _ _ _ _ _ _) Tryz.underlying64 rfl (by kernel_rfl)) rfl ⟨m,g,cap,rfl,?_,hrest1,hrest2,PI.same (SM2 _ _ _ _ _ _ _ _ _) hne3.symm hne.symm hP3,Gf (Aq hG (by omega)) (XK _) _ _ _ _ _ _ _ _⟩;exact Ck (Ed hO (SM2 _ _ _ _ _ _ _ _ _) (by omega) (by omega)) (by omega)
