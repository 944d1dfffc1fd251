import Derived.Test.YtfnfdllflgmhnaaGreatDoorEa
import Derived.Test.YtfnfdllflgmhnaaGreatDoorRc
import Derived.Lib.ConvBytes
import Derived.Lib.JoinLaws
import Derived.Lib.AppendStr
import Derived.Shelf.Strings.Builder1
import Derived.Test.YtfnfdllflgmhnaaGreatDoorProg
open Array renaming getElem?_eq_some_iff → XS
open Go renaming Calls → XR, Value → XU, World → ο, cell_of_row → ε, frozen_of_row → ζ, heap_alloc_new → η
open Go.Ending renaming returned → ρ
open Go.IntKind renaming i64 → κ
open Go.Obj renaming cells → γ
open Go.Proofs.Tryz renaming prog → μ
open Go.RowKit renaming Below → υ, intOf → XX
open Go.RowKit.Below renaming refl → Xa
open Go.Value renaming int → ι, slice → σ, string → τ, agg → χ, pointer → ψ, tuple → θ
open List renaming length_append → XQ, nil_append → Xk
open Nat renaming le_refl → XK, zero_add → XT
open Option renaming none → ν, some → ς
open Option.some renaming inj → XM
open Or renaming inl → Xc
namespace Go.Proofs.YtfnfdllflgmhnaaGreatDoor
open Go.RowKit
set_option maxRecDepth 20000
set_option maxHeartbeats 4000000
theorem F8{B g:Nat}{a w:ο}(o:Nat)(vs:List XU)(hb:υ B a w)(hg:B<=g):υ B a (w.setCells g o vs):=by
 induction vs generalizing o w with
 | nil=>exact hb
 | cons v r ih=>exact ih (o+1) (hb.setCell hg v)
theorem EA(w:ο)(g i:Nat)(h:i≠g)(o:Nat)(vs:List XU):(w.setCells g o vs).heap[i]?=w.heap[i]?:=by
 induction vs generalizing o w with
 | nil=>rfl
 | cons v r ih=>exact(ih _ _).trans (heap_setCell_other _ _ _ _ (by simpa using h))
theorem GF(w:ο)(g o:Nat)(vs:List XU):(w.setCells g o vs).heap.size=w.heap.size:=by
 induction vs generalizing o w with
 | nil=>rfl
 | cons v r ih=>exact(ih _ _).trans (by simp)
structure RwE(w:ο)(B g n cap:Nat)(L:List UInt8):Prop where
 hB:B<=g
 lt:g<w.heap.size
 len:L.length=n
 le:n<=cap
 cs:∀ j (hj:j<L.length),w.cell? ⟨g,j,ν⟩=ς (ι .u8 (L[j].toNat:Int))
 sp:∀ j,j<cap->(w.cell? ⟨g,j,ν⟩).isSome=true
 fz:∀ j,n<=j->j<cap->w.frozen? ⟨g,j,ν⟩=false
theorem RwE.kept{w w':ο}{B g n cap:Nat}{L:List UInt8}{r:Option Nat}(h:RwE w B g n cap L)(hg:w.grownBy w' r)(hr:r≠ς g):RwE w' B g n cap L:=by
 have e:w'.heap[g]?=w.heap[g]?:=hg.block g h.lt (λe=>hr e.symm);have c:∀ j,w'.cell? ⟨g,j,ν⟩=w.cell? ⟨g,j,ν⟩:=λj=>World.cell?_of_block e;have f:∀ j,w'.frozen? ⟨g,j,ν⟩=w.frozen? ⟨g,j,ν⟩:=λj=>World.frozen?_of_block e;exact⟨h.hB,Nat.lt_of_lt_of_le h.lt hg.size,h.len,h.le,λj hj=>(c j).trans (h.cs j hj),λj hj=>by rw [c];exact h.sp j hj,λj h1 h2=>by rw [f];exact h.fz j h1 h2⟩
theorem RwE.later{w w':ο}{B g n cap:Nat}{L:List UInt8}(h:RwE w B g n cap L)(hb:υ w.heap.size w w'):RwE w' B g n cap L:=
 h.kept (r:=ν) ⟨hb.os,hb.tape,hb.output,hb.size,λk hk _=>hb.block k hk⟩ (λe=>by cases e)
theorem WU(g j:Nat):(⟨g,0,ν⟩:Addr).add j=⟨g,j,ν⟩:=by unfold Addr.add;split <;> simp_all
theorem RwE.conv{w:ο}{B g n cap:Nat}{L:List UInt8}(h:RwE w B g n cap L):(convert 183 9 (σ (ς ⟨g,0,ν⟩) n cap)).run μ w=.ok (τ ⟨L.toArray⟩) w:=by
 obtain⟨-,-,rfl,-,hc,-,-⟩:=h;refine run_convert_bytes_back w 183 9 5 ⟨g,0,ν⟩ cap L Tryz.underlying183 Tryz.underlying5 Tryz.underlying9 (λj hj=>?_);rw [WU];exact hc j hj
theorem FW(w:ο)(e:TypeId)(s:ByteArray):(Lib.bytesCells w e s).size=grownCap w s.size 0 e:=by
 have h1:s.size<=grownCap w s.size 0 e:=grownCap_ge w s.size 0 e;have h2:s.data.size=s.size:=rfl;unfold Lib.bytesCells;simp only [Array.size_append,Array.size_map,Array.size_replicate]
 omega
theorem RwE.new(w:ο)(s:ByteArray):RwE (Lib.bytesWorld w 5 s) w.heap.size w.heap.size s.size (grownCap w s.size 0 5) s.data.toList:=by
 have hz:=FW w 5 s;have hn:=Lib.bytesWorld_at_new w 5 s;refine⟨XK _,by rw [Lib.bytesWorld_size];omega,by simp,grownCap_ge _ _ _ _,λj hj=>?_,λj hj=>?_,λj h1 h2=>?_⟩
 ·
  have hj':j<s.size:=by simpa using hj
  rw [Lib.bytesWorld_cell w _ s j hj'];have hj2:j<s.data.size:=by simpa using hj
  simp only [List.getD,Array.getElem?_toList,Array.getElem_toList]
  rw [Array.getElem?_eq_getElem hj2];rfl
 · rw [ε _ _ j _ _ _ hn,Array.getElem?_eq_getElem (by omega)];rfl
 ·
  simp only [World.frozen?,hn,Bool.and_eq_false_iff,decide_eq_false_iff_not]
  left
  omega
theorem WF(w:ο)(s:ByteArray):υ w.heap.size w (Lib.bytesWorld w 5 s):=
 ⟨rfl,rfl,rfl,by rw [Lib.bytesWorld_size];omega,λk hk=>Lib.bytesWorld_at_old w _ s k hk⟩
theorem GQ(s:ByteArray):(byteCells s).length=s.size:=by simp [byteCells]
theorem Ij(L:List UInt8)(s:ByteArray)(j:Nat)(hj:j<(L ++ s.data.toList).length)(h:L.length<=j)(h2:j - L.length<(byteCells s).length):(byteCells s)[j - L.length]=ι .u8 (((L ++ s.data.toList)[j]).toNat:Int):=by
 simp only [byteCells,List.getElem_map]
 rw [List.getElem_append_right h]
theorem DU{ops:Array Oper}{rest:List Oper}{o:Oper}{a:Act}{Q:Exit->Act->ο->Prop}{w:ο}(hgd:o.guard=ν)(sl x:Operand)
 (ho:o.op=.call { callee:=.builtin .append,args:=#[sl,x],argTypes:=#[183,9] })
 (B g n cap:Nat) (L:List UInt8) (hs:a.eval sl=σ (ς ⟨g,0,ν⟩) n cap) (hR:RwE w B g n cap L) (s:ByteArray) (hx:a.eval x=τ s) (hl:n+s.size<=1048576) (hB:B<=w.heap.size)
 (h:∀ g' cap' w',RwE w' B g' (n+s.size) cap' (L ++ s.data.toList)->w.grownBy w' (ς g)->wpList μ ops Q rest (a.put o.dst (σ (ς ⟨g',0,ν⟩) (n+s.size) cap')) w'):wpList μ ops Q (o :: rest) a w:=by
 obtain⟨h1,h2,h3,h4,h5,h6,h7⟩:=id hR;have hlen:(L ++ s.data.toList).length=n+s.size:=by simp [h3]
 have hbl:=GQ s;by_cases hroom:n+s.size<=cap
 ·
  have hc:∀ j,j<(byteCells s).length->(w.cell? ⟨g,0+n+j,ν⟩).isSome=true:=λj hj=>h6 _ (by omega);have hc':∀ j,j<(byteCells s).length->(w.cell? ⟨g,n+j,ν⟩).isSome=true:=λj hj=>h6 _ (by omega);refine wpList_append_room1 w hgd sl x 183 9 ho 5 (ι .u8 0) 1 Tryz.underlying183 Tryz.infoB g 0 n cap hs (τ s) hx s.size (byteCells s) (Src.ofString w Tryz.underlying9 s) hroom hc (λj hj=>h7 _ (by omega) (by omega)) ?_;rw [XT];refine h g cap _ ⟨h1,by rw [GF];exact h2,hlen,hroom,λj hj=>?_,λj hj=>World.isSome_setCells _ _ _ _ _ (h6 j hj),λj ha hb=>by rw [World.frozen?_setCells];exact h7 j (by omega) hb⟩ ?_
  ·
   by_cases hjn:j<n
   · rw [World.cell?_setCells_out _ _ _ _ _ (λ_ _=>Xc hjn)];have:=h5 j (by omega);rw [this,List.getElem_append_left]
   · have:=World.cell?_setCells_in g (byteCells s) n w hc' (j - n) (by omega);rw [show n+(j - n)=j by omega] at this;rw [this];subst h3;rw [Ij L s j hj (by omega)]
  · have hb:=F8 n (byteCells s) (Xa g w) (XK g);exact⟨hb.os,hb.tape,hb.output,hb.size,λk _ hne=>EA w g k (λe=>hne (by rw [e])) n (byteCells s)⟩
 ·
  obtain⟨i,hi,hz0,hz1,hz2⟩:=info_parts Tryz.infoB;have hr:=Lib.run_append_grow_string (P:=μ) w 183 9 o.type 5 i (ι .u8 0) Tryz.underlying183 Tryz.underlying9 hi hz0 ⟨g,0,ν⟩ n cap (A2 L) (by simp [A2,h3,hz1]) (λj v hv=>by
   rw [WU];have hj:j<L.length:=by
    rcases Nat.lt_or_ge j L.length with hlt | hge
    · exact hlt
    · simp [A2,hge] at hv
   rw [h5 j hj];simpa [A2,hj] using hv) s (by omega) (by omega) (by rw [hz2];exact growslice_fits (by omega) (by omega))
  have hA:(A2 L).toArray ++ (Lib.strCells s).toArray=(A2 (L ++ s.data.toList)).toArray:=by simp [A2,Lib.strCells]
  have hge:n+s.size<=grownCap w (n+s.size) cap 5:=grownCap_ge _ _ _ _;refine wpList_plain hgd λK hK=>?_;unfold Oper.wp execOp;simp only [ho,resolve,invoke,builtin,Sem.run_bind,Sem.run_pure,Result.andThen_ok,List.map_toArray,List.map_cons,List.map_nil,hs,hx,hr]
  refine hK _ _ (h _ _ _ ⟨hB,by simp,hlen,hge,λj hj=>?_,λj hj=>?_,λj _ _=>ζ _ _ j _ _ (η w.drew _)⟩ ⟨rfl,rfl,rfl,by simp,λk hk _=>Below.heap_alloc _ _ _ hk⟩)
  · rw [hA];refine(ε _ w.heap.size j _ _ _ (η w.drew _)).trans ?_;rw [Array.getElem?_append_left (by simpa [A2] using hj),List.getElem?_toArray];unfold A2;rw [List.getElem?_map,List.getElem?_eq_getElem hj];rfl
  ·
   rw [hA];refine Eq.trans (congrArg Option.isSome (ε _ w.heap.size j _ _ _ (η w.drew _))) ?_;rw [Array.getElem?_eq_getElem (by
    rw [Array.size_append,size_zeroCells];have e1:(A2 (L ++ s.data.toList)).toArray.size=n+s.size:=by simpa [A2] using hlen
    have e2:(ι IntKind.u8 0).cells.size=1:=rfl;rw [e1,e2];omega)]
   rfl
theorem Ey{w w':ο}{B:Nat}{r:Option Nat}(h:w.grownBy w' r)(hr:∀ k,r=ς k->B<=k)(hB:B<=w.heap.size):υ B w w':=
 ⟨h.os,h.tape,h.output,h.size,λk hk=>h.block k (by omega) (λe=>by have:=hr k e.symm;omega)⟩
theorem M8{w w':ο}{p:Addr}{v:XU}{r:Option Nat}(hg:w.grownBy w' r)(hc:w.cell? p=ς v)(hne:ς p.block≠r):w'.cell? p=ς v:=
 (World.cell?_of_block (hg.block p.block (World.block_lt_of_cell? _ _ hc) hne)).trans hc
theorem AI(L:List UInt8):(bs L).size=L.length:=by show L.toArray.size=_;simp
theorem Bw(L:List UInt8):(bs L).data.toList=L:=by simp [bs]
theorem WT(s:ByteArray):bs s.data.toList=s:=by simp [bs]
theorem A3(L M:List UInt8):bs L ++ bs M=bs (L ++ M):=by
 apply ByteArray.ext
 simp [bs,ByteArray.data_append]
theorem Ff(L:List UInt8)(s:ByteArray):bs L ++ s=bs (L ++ s.data.toList):=by rw [←A3,WT]
def s8(s:ByteArray):List UInt8:=AJ 1 s.size ++ s.data.toList
def IH(s:ByteArray):List UInt8:=AJ 2 s.size ++ s.data.toList
theorem As(s:ByteArray):(s8 s).length=1+s.size:=by simp [s8,AG]
theorem CR(s:ByteArray):(IH s).length=2+s.size:=by simp [IH,AG]
theorem QQ(s:ByteArray)(w:ο)(hs:s.size<=1048576):XR μ 69 #[τ s] w λe w'=>e=ρ (τ (bs (s8 s)))/\υ w.heap.size w w':=by
 go_enter Tryz.func69,Tryz.ntmps69
 go_wp2_with (go_at_call 68;refine(DK s.size _).mono ?_;rintro e w1 ⟨rfl,hb1⟩;have hz:(bs (AJ 1 (s.size:Int))).size=1:=(by rw [AI,AG]))
 go_ret
 exact⟨congrArg (λx=>ρ (τ x)) (Ff _ _),hb1⟩
theorem UB(s:ByteArray)(w:ο)(hs:s.size<=1048576):XR μ 70 #[τ s] w λe w'=>e=ρ (τ (bs (IH s)))/\υ w.heap.size w w':=by
 go_enter Tryz.func70,Tryz.ntmps70
 go_wp2_with (go_at_call 68;refine(QS s.size _).mono ?_;rintro e w1 ⟨rfl,hb1⟩;have hz:(bs (AJ 2 (s.size:Int))).size=2:=(by rw [AI,AG]))
 go_ret
 exact⟨congrArg (λx=>ρ (τ x)) (Ff _ _),hb1⟩
def Bh(i:Itm):List UInt8:=AJ 1 i.o ++ (if i.o=1 then AJ 8 i.m else if i.o=2 then IH i.s else if i.o=3 then s8 i.s else [])
def AU(B:Nat->List UInt8):Nat->List UInt8
 | 0=>[]
 | k+1=>AU B k ++ B k
def Am(I:Nat->Itm)(n:Nat):List UInt8:=AJ 2 n ++ AU (λk=>Bh (I k)) n
theorem NB(i:Itm)(h:i.s.size<=200):(Bh i).length<=300:=by
 unfold Bh;rw [XQ,AG];(repeat' split) <;> simp [AG,As,CR] <;> omega
theorem BQ{B:Nat->List UInt8}{c:Nat}:∀ {n:Nat},(∀ k,k<n->(B k).length<=c)->(AU B n).length<=n * c
 | 0,_=>by simp [AU]
 | n+1,h=>by
  have h1:=BQ (n:=n) (λk hk=>h k (by omega));have h2:=h n (by omega);rw [AU,XQ,Nat.add_mul];omega
theorem BX{I:Nat->Itm}{n:Nat}(hn:n<=100)(h:∀ k,k<n->(I k).s.size<=200):(Am I n).length<=30002:=by
 have:=BQ (B:=λk=>Bh (I k)) (c:=300) (n:=n) (λk hk=>NB _ (h k hk));have h2:n * 300<=100 * 300:=Nat.mul_le_mul_right 300 hn;rw [Am,XQ,AG];omega
theorem IF(a:Option Addr)(n c:Nat)(I:Nat->Itm)(w:ο)(h:IL w a n I)(hn:n<=100)(hs:∀ k,k<n->(I k).s.size<=200):XR μ 71 #[σ a n c] w λe w'=>e=ρ (τ (bs (Am I n)))/\υ w.heap.size w w':=by
 go_enter Tryz.func71,Tryz.ntmps71
 go_wp2_with (go_at_call 68;refine(QS n _).mono ?_;rintro e w1 ⟨rfl,hb1⟩;have hc:=Lib.run_convert_string_bytes (P:=μ) w1 9 183 5 (bs (AJ 2 n)) Tryz.underlying9 Tryz.underlying183 Tryz.underlying5)
 have hT:(bs (AJ 2 (n:Int))).size<=2:=by rw [AI,AG];omega
 have hR0:=RwE.new w1 (bs (AJ 2 n));have hb2:=hb1.trans ((WF w1 (bs (AJ 2 n))).mono hb1.size);have hsz:=hb1.size;rw [Bw] at hR0;go_loopw [3,5,12] (λo _ i wr=>∃ (k m g cap:Nat),k<=n/\i=ι κ k/\o=σ (ς ⟨g,0,ν⟩) m cap/\m<=2+300 * k/\RwE wr w.heap.size g m cap (AJ 2 n ++ AU (λk=>Bh (I k)) k)/\υ w.heap.size w wr) (λ_ _ i _=>n - (XX i).toNat)
 case atStart=>exact⟨0,_,_,_,by omega,rfl,rfl,by omega,⟨by omega,hR0.lt,by rw [AU,List.append_nil];exact hR0.len,hR0.le,by rw [AU,List.append_nil];exact hR0.cs,hR0.sp,hR0.fz⟩,hb2⟩
 case round=>
  clear hc;obtain⟨k,m,g,cap,hk,rfl,rfl,hm,hR,hb⟩:=hrel;by_cases hlt:k<n
  ·
   have hsk:=hs k hlt;have HL:Hid (AU (λk=>Bh (I k)) (k+1)=AU (λk=>Bh (I k)) k ++ Bh (I k)):=rfl;obtain⟨b,off,rfl,c0,c1,c2,-⟩:=h.later hb k hlt;have hsr:=hb.size;have hlg:=hR.lt;have hone:True:=trivial;have z1:(bs (AJ 1 (I k).o)).size<=1:=by rw [AI,AG];omega
   have z8:(bs (AJ 8 (I k).m)).size<=8:=by rw [AI,AG];omega
   have zs:(bs (IH (I k).s)).size<=202:=by rw [AI,CR];omega
   have zt:(bs (s8 (I k).s)).size<=201:=by rw [AI,As];omega
   go_wp2_with (first | (go_at_call 68;have _h:=hone;refine(DK (I k).o _).mono ?_;rintro e w2 ⟨rfl,hb3⟩;obtain⟨d0,d1,d2⟩:=DQ hb3;have hR2:=(hR.later (AE wr _)).later hb3;replace hb3:=bj hb hb3) | (at_builtin;have hs2:=hb3.size;refine DU rfl _ _ rfl w.heap.size g m cap _ rfl hR2 (bs (AJ 1 (I k).o)) rfl (by omega) (by omega) ?_;intro g1 cap1 w3 hR3 hg3;rw [Bw] at hR3;replace d0:=M8 hg3 d0 (λe=>by have:=XM e;simp at this;omega);replace d1:=M8 hg3 d1 (λe=>by have:=XM e;simp at this;omega);replace d2:=M8 hg3 d2 (λe=>by have:=XM e;simp at this;omega);replace hg3:=hb3.trans (Ey hg3 (λq hq=>by have e:g=q:=XM hq;have:=hR.hB;omega) hs2);clear hR2 hone))
   ·
    go_wp2_with (first | (go_at_call 68;refine(QR (I k).m _).mono ?_;rintro e w4 ⟨rfl,hb4⟩;have hR4:=hR3.later hb4;replace hb4:=hg3.trans (hb4.mono hg3.size)) | (at_builtin;have hs4:=hb4.size;refine DU rfl _ _ rfl w.heap.size g1 _ cap1 _ rfl hR4 (bs (AJ 8 (I k).m)) rfl (by omega) (by omega) ?_;intro g2 cap2 w5 hR5 hg5;rw [Bw] at hR5;replace hg5:=hb4.trans (Ey hg5 (λq hq=>by have e:g1=q:=XM hq;have:=hR3.hB;omega) hs4)))
    have HQ:Hid (Bh (I k)=AJ 1 (I k).o ++ AJ 8 (I k).m):=by
     simp only [beq_iff_eq] at *
     simp [Hid,Bh, *]
    go_roundw
    case rel=>exact⟨k+1,_,g2,cap2,by omega,by go_num,rfl,by omega,by rw [HL.out,HQ.out];simpa using hR5,hg5⟩
    case measure=>simp [XX];omega
   ·
    go_wp2_with (first | (go_at_call 70;refine(UB (I k).s _ (by omega)).mono ?_;rintro e w4 ⟨rfl,hb4⟩;have hR4:=hR3.later hb4;replace hb4:=hg3.trans (hb4.mono hg3.size)) | (at_builtin;have hs4:=hb4.size;refine DU rfl _ _ rfl w.heap.size g1 _ cap1 _ rfl hR4 (bs (IH (I k).s)) rfl (by omega) (by omega) ?_;intro g2 cap2 w5 hR5 hg5;rw [Bw] at hR5;replace hg5:=hb4.trans (Ey hg5 (λq hq=>by have e:g1=q:=XM hq;have:=hR3.hB;omega) hs4)))
    have HQ:Hid (Bh (I k)=AJ 1 (I k).o ++ IH (I k).s):=by
     simp only [beq_iff_eq,beq_eq_false_iff_ne,ne_eq] at *
     simp [Hid,Bh, *]
    go_roundw
    case rel=>exact⟨k+1,_,g2,cap2,by omega,by go_num,rfl,by omega,by rw [HL.out,HQ.out];simpa using hR5,hg5⟩
    case measure=>simp [XX];omega
   ·
    go_wp2_with (first | (go_at_call 69;refine(QQ (I k).s _ (by omega)).mono ?_;rintro e w4 ⟨rfl,hb4⟩;have hR4:=hR3.later hb4;replace hb4:=hg3.trans (hb4.mono hg3.size)) | (at_builtin;have hs4:=hb4.size;refine DU rfl _ _ rfl w.heap.size g1 _ cap1 _ rfl hR4 (bs (s8 (I k).s)) rfl (by omega) (by omega) ?_;intro g2 cap2 w5 hR5 hg5;rw [Bw] at hR5;replace hg5:=hb4.trans (Ey hg5 (λq hq=>by have e:g1=q:=XM hq;have:=hR3.hB;omega) hs4)))
    have HQ:Hid (Bh (I k)=AJ 1 (I k).o ++ s8 (I k).s):=by
     simp only [beq_iff_eq,beq_eq_false_iff_ne,ne_eq] at *
     simp [Hid,Bh, *]
    go_roundw
    case rel=>exact⟨k+1,_,g2,cap2,by omega,by go_num,rfl,by omega,by rw [HL.out,HQ.out];simpa using hR5,hg5⟩
    case measure=>simp [XX];omega
   ·
    have HQ:Hid (Bh (I k)=AJ 1 (I k).o ++ []):=by
     simp only [beq_eq_false_iff_ne,ne_eq] at *
     simp [Hid,Bh, *]
    go_roundw
    case rel=>exact⟨k+1,_,g1,cap1,by omega,by go_num,rfl,by omega,by rw [HL.out,HQ.out];simpa using hR3,hg3⟩
    case measure=>simp [XX];omega
  ·
   obtain rfl:k=n:=by omega
   have hc:=hR.conv;go_wp2;go_ret
   exact⟨rfl,hb⟩
set_option maxHeartbeats 2000000
theorem QE(x:Int)(i:Nat)(h:i<8):Rd (x % 18446744073709551616) i=Rd x i:=by
 unfold Rd;have h8:i=0∨i=1∨i=2∨i=3∨i=4∨i=5∨i=6∨i=7:=by omega
 rcases h8 with rfl | rfl | rfl | rfl | rfl | rfl | rfl | rfl <;> (simp only [Int.reducePow];congr 2;omega)
theorem IR(n:Nat)(x:Int)(h:n<=8):AJ n (x % 18446744073709551616)=AJ n x:=by
 unfold AJ;apply List.map_congr_left
 intro j hj;exact QE x _ (by have:=List.mem_range.1 hj;omega)
theorem Cr(x:Int)(w:ο):XR μ 94 #[ι .u64 (x % 18446744073709551616),ι κ 1] w λe w'=>e=ρ (τ (bs (AJ 1 x)))/\υ w.heap.size w w':=by
 have h:=Ih (x % 18446744073709551616).toNat w;rw [Int.toNat_of_nonneg (Int.emod_nonneg _ (by omega)),IR 1 x (by omega)] at h;exact h
theorem NK(x:Int)(w:ο):XR μ 94 #[ι .u64 (x % 18446744073709551616),ι κ 8] w λe w'=>e=ρ (τ (bs (AJ 8 x)))/\υ w.heap.size w w':=by
 have h:=WE (x % 18446744073709551616).toNat w;rw [Int.toNat_of_nonneg (Int.emod_nonneg _ (by omega)),IR 8 x (by omega)] at h;exact h
theorem DC(s:ByteArray)(w:ο)(hs:s.size<=1048576):XR μ 95 #[τ s,ι κ 1] w λe w'=>e=ρ (τ (bs (s8 s)))/\υ w.heap.size w w':=by
 have hz:(bs (AJ 1 (s.size:Int))).size<=1:=by rw [AI,AG];omega
 go_enter Tryz.func95,Tryz.ntmps95
 go_wp2_with (go_at_call 94;refine(Ih s.size _).mono ?_;rintro e w1 ⟨rfl,hb1⟩)
 go_ret
 exact⟨congrArg (λx=>ρ (τ x)) (Ff _ _),hb1⟩
theorem KL(s:ByteArray)(w:ο)(hs:s.size<=1048576):XR μ 95 #[τ s,ι κ 2] w λe w'=>e=ρ (τ (bs (IH s)))/\υ w.heap.size w w':=by
 have hz:(bs (AJ 2 (s.size:Int))).size<=2:=by rw [AI,AG];omega
 go_enter Tryz.func95,Tryz.ntmps95
 go_wp2_with (go_at_call 94;refine(RY s.size _).mono ?_;rintro e w1 ⟨rfl,hb1⟩)
 go_ret
 exact⟨congrArg (λx=>ρ (τ x)) (Ff _ _),hb1⟩
def CZ(c:Clm):List UInt8:=s8 c.s ++ AJ 1 c.t
def A4(i:Itm):List UInt8:=AJ 1 i.o ++ (if i.o=1 then AJ 8 i.m else IH i.s)
theorem WC(c:Clm)(w:ο)(hs:c.s.size<=1048576):XR μ 97 #[χ #[τ c.s,ι κ c.t]] w λe w'=>e=ρ (τ (bs (CZ c)))/\υ w.heap.size w w':=by
 have z0:(bs (s8 c.s)).size<=1048577:=by rw [AI,As];omega
 have z1:(bs (AJ 1 c.t)).size<=1:=by rw [AI,AG];omega
 go_enter Tryz.func97,Tryz.ntmps97
 go_wp2;go_region_with (first | (go_at_call 95;refine(DC c.s _ hs).mono ?_;rintro e wS ⟨rfl,hbS⟩;obtain⟨y0,y1⟩:=Ia (Aa hbS)) | (go_at_call 94;refine(Cr c.t _).mono ?_;rintro e wH ⟨rfl,hbH⟩))
 all_goals
  go_wp2;go_ret
  exact⟨congrArg (λx=>ρ (τ x)) (A3 _ _),B0 (AA (Aa hbS) hbH)⟩
theorem Vd(i:Itm)(w:ο)(hs:i.s.size<=1048576):XR μ 99 #[χ #[ι κ i.o,ι κ i.m,τ i.s]] w λe w'=>e=ρ (τ (bs (A4 i)))/\υ w.heap.size w w':=by
 have z1:(bs (AJ 1 i.o)).size<=1:=by rw [AI,AG];omega
 have z8:(bs (AJ 8 i.m)).size<=8:=by rw [AI,AG];omega
 have zs:(bs (IH i.s)).size<=1048578:=by rw [AI,CR];omega
 have hone:True:=trivial;by_cases h1:i.o=1
 ·
  have h1':(i.o == 1)=true:=by simp [h1]
  have HQ:Hid (A4 i=AJ 1 i.o ++ AJ 8 i.m):=by simp [Hid,A4,h1]
  clear h1;go_enter Tryz.func99,Tryz.ntmps99
  go_wp2_with (first | (go_at_call 94;have _h:=hone;refine(Cr _ _).mono ?_;rintro e w1 ⟨rfl,hb1⟩;obtain⟨d0,d1,d2⟩:=DQ hb1;replace hb1:=B0 hb1;clear hone) | (go_at_call 94;refine(NK _ _).mono ?_;rintro e w2 ⟨rfl,hb2⟩;replace hb2:=AA hb1 hb2))
  go_ret
  exact⟨congrArg (λx=>ρ (τ x)) ((A3 _ _).trans (by rw [HQ.out])),hb2⟩
 ·
  have h1':(i.o == 1)=false:=by simp [h1]
  have HQ:Hid (A4 i=AJ 1 i.o ++ IH i.s):=by simp [Hid,A4,h1]
  clear h1;go_enter Tryz.func99,Tryz.ntmps99
  go_wp2_with (first | (go_at_call 94;refine(Cr _ _).mono ?_;rintro e w1 ⟨rfl,hb1⟩;obtain⟨d0,d1,d2⟩:=DQ hb1;replace hb1:=B0 hb1) | (go_at_call 95;refine(KL i.s _ hs).mono ?_;rintro e w2 ⟨rfl,hb2⟩;replace hb2:=AA hb1 hb2))
  go_ret
  exact⟨congrArg (λx=>ρ (τ x)) ((A3 _ _).trans (by rw [HQ.out])),hb2⟩
theorem Vp(i:Itm)(w:ο)(hs:i.s.size<=1048576):XR μ 145 #[χ #[ι κ i.o,ι κ i.m,τ i.s]] w λe w'=>e=ρ (τ (bs (Bh i)))/\υ w.heap.size w w':=by
 have z1:(bs (AJ 1 i.o)).size<=1:=by rw [AI,AG];omega
 have z8:(bs (AJ 8 i.m)).size<=8:=by rw [AI,AG];omega
 have zs:(bs (IH i.s)).size<=1048578:=by rw [AI,CR];omega
 have zt:(bs (s8 i.s)).size<=1048577:=by rw [AI,As];omega
 have hone:True:=trivial;by_cases h1:i.o=1
 ·
  have h1':(i.o == 1)=true:=by simp [h1]
  have HQ:Hid (Bh i=AJ 1 i.o ++ AJ 8 i.m):=by simp [Hid,Bh,h1]
  clear h1;go_enter Tryz.func145,Tryz.ntmps145
  go_wp2_with (first | (go_at_call 94;have _h:=hone;refine(Cr _ _).mono ?_;rintro e w1 ⟨rfl,hb1⟩;obtain⟨d0,d1,d2⟩:=DQ hb1;replace hb1:=B0 hb1;clear hone) | (go_at_call 94;refine(NK _ _).mono ?_;rintro e w2 ⟨rfl,hb2⟩;replace hb2:=AA hb1 hb2))
  go_ret
  exact⟨congrArg (λx=>ρ (τ x)) ((A3 _ _).trans (by rw [HQ.out])),hb2⟩
 have h1':(i.o == 1)=false:=by simp [h1]
 by_cases h2:i.o=2
 ·
  have h2':(i.o == 2)=true:=by simp [h2]
  have HQ:Hid (Bh i=AJ 1 i.o ++ IH i.s):=by simp [Hid,Bh,h2]
  clear h2;go_enter Tryz.func145,Tryz.ntmps145
  go_wp2_with (first | (go_at_call 94;have _h:=hone;refine(Cr _ _).mono ?_;rintro e w1 ⟨rfl,hb1⟩;obtain⟨d0,d1,d2⟩:=DQ hb1;replace hb1:=B0 hb1;clear hone) | (go_at_call 95;refine(KL i.s _ hs).mono ?_;rintro e w2 ⟨rfl,hb2⟩;replace hb2:=AA hb1 hb2))
  go_ret
  exact⟨congrArg (λx=>ρ (τ x)) ((A3 _ _).trans (by rw [HQ.out])),hb2⟩
 have h2':(i.o == 2)=false:=by simp [h2]
 by_cases h3:i.o=3
 ·
  have h3':(i.o == 3)=true:=by simp [h3]
  have HQ:Hid (Bh i=AJ 1 i.o ++ s8 i.s):=by simp [Hid,Bh,h3]
  clear h3;go_enter Tryz.func145,Tryz.ntmps145
  go_wp2_with (first | (go_at_call 94;have _h:=hone;refine(Cr _ _).mono ?_;rintro e w1 ⟨rfl,hb1⟩;obtain⟨d0,d1,d2⟩:=DQ hb1;replace hb1:=B0 hb1;clear hone) | (go_at_call 95;refine(DC i.s _ hs).mono ?_;rintro e w2 ⟨rfl,hb2⟩;replace hb2:=AA hb1 hb2))
  go_ret
  exact⟨congrArg (λx=>ρ (τ x)) ((A3 _ _).trans (by rw [HQ.out])),hb2⟩
 have h3':(i.o == 3)=false:=by simp [h3]
 have HQ:Hid (Bh i=AJ 1 i.o):=by simp [Hid,Bh,h1,h2,h3]
 clear h1 h2 h3;go_enter Tryz.func145,Tryz.ntmps145
 go_wp2_with (go_at_call 94;have _h:=hone;refine(Cr _ _).mono ?_;rintro e w1 ⟨rfl,hb1⟩;obtain⟨d0,d1,d2⟩:=DQ hb1;replace hb1:=B0 hb1;clear hone)
 go_ret
 exact⟨congrArg (λx=>ρ (τ (bs x))) HQ.out.symm,hb1⟩
end Go.Proofs.YtfnfdllflgmhnaaGreatDoor
namespace Go.Proofs.YtfnfdllflgmhnaaGreatDoor
open Go.Shelf
def Tryz.lays166_ren:Go.Shelf.Ren:=⟨λ| 166=>142 | 240=>182 | 276=>206 | n=>n,λ| 0=>0 | 3=>3 | 4=>4 | 9=>9 | 20=>20 | 37=>183 | 70=>201 | 72=>203 | 75=>205 | 164=>269 | 5=>5 | 80=>208 | n=>n,λ| n=>n⟩
theorem Tryz.lays166:Go.Proofs.Lays.n166 μ Tryz.lays166_ren:={
 mixed:=by kernel_rfl
 f166:=Tryz.func142.trans (congrArg ς (by kernel_rfl))
 f240:=Tryz.func182.trans (congrArg ς (by kernel_rfl))
 f276:=Tryz.func206.trans (congrArg ς (by kernel_rfl))
 t0:=Tryz.underlying0
 a0:=Tryz.isAgg0
 z0:=Tryz.sizeOf0
 v0:=Tryz.zeroValue0
 t3:=Tryz.underlying3
 a3:=Tryz.isAgg3
 z3:=Tryz.sizeOf3
 v3:=Tryz.zeroValue3
 t4:=Tryz.underlying4
 a4:=Tryz.isAgg4
 z4:=Tryz.sizeOf4
 v4:=Tryz.zeroValue4
 t9:=Tryz.underlying9
 a9:=Tryz.isAgg9
 z9:=Tryz.sizeOf9
 v9:=Tryz.zeroValue9
 t20:=Tryz.underlying20
 a20:=Tryz.isAgg20
 z20:=Tryz.sizeOf20
 v20:=Tryz.zeroValue20
 t37:=Tryz.underlying183
 a37:=Tryz.isAgg183
 z37:=Tryz.sizeOf183
 v37:=Tryz.zeroValue183
 t70:=Tryz.underlying201
 a70:=Tryz.isAgg201
 z70:=Tryz.sizeOf201
 v70:=Tryz.zeroValue201
 t72:=Tryz.underlying203
 a72:=Tryz.isAgg203
 z72:=Tryz.sizeOf203
 v72:=Tryz.zeroValue203
 t75:=Tryz.underlying205
 a75:=Tryz.isAgg205
 z75:=Tryz.sizeOf205
 v75:=Tryz.zeroValue205
 t164:=Tryz.underlying269
 a164:=Tryz.isAgg269
 z164:=Tryz.sizeOf269
 v164:=Tryz.zeroValue269 }
theorem Tryz.Builder_Extra_166:Builder.Extra μ Tryz.lays166_ren:={
 sizeBuilder:=by kernel_rfl
 liesBuilder:=by kernel_rfl
 t5:=Tryz.underlying5
 a5:=Tryz.isAgg5
 z5:=Tryz.sizeOf5
 v5:=Tryz.zeroValue5
 infoByte:=by kernel_rfl
 cellsByte:=by kernel_rfl
 sizeByte:=by kernel_rfl
 neB5:=by decide }
def Tryz.lays169_ren:Go.Shelf.Ren:=⟨λ| 169=>143 | n=>n,λ| 0=>0 | 3=>3 | 9=>9 | 37=>183 | 70=>201 | 72=>203 | 127=>200 | 5=>5 | n=>n,λ| n=>n⟩
theorem Tryz.lays169:Go.Proofs.Lays.n169 μ Tryz.lays169_ren:={
 mixed:=by kernel_rfl
 f169:=Tryz.func143.trans (congrArg ς (by kernel_rfl))
 t0:=Tryz.underlying0
 a0:=Tryz.isAgg0
 z0:=Tryz.sizeOf0
 v0:=Tryz.zeroValue0
 t3:=Tryz.underlying3
 a3:=Tryz.isAgg3
 z3:=Tryz.sizeOf3
 v3:=Tryz.zeroValue3
 t9:=Tryz.underlying9
 a9:=Tryz.isAgg9
 z9:=Tryz.sizeOf9
 v9:=Tryz.zeroValue9
 t37:=Tryz.underlying183
 a37:=Tryz.isAgg183
 z37:=Tryz.sizeOf183
 v37:=Tryz.zeroValue183
 t70:=Tryz.underlying201
 a70:=Tryz.isAgg201
 z70:=Tryz.sizeOf201
 v70:=Tryz.zeroValue201
 t72:=Tryz.underlying203
 a72:=Tryz.isAgg203
 z72:=Tryz.sizeOf203
 v72:=Tryz.zeroValue203
 t127:=Tryz.underlying200
 a127:=Tryz.isAgg200
 z127:=Tryz.sizeOf200
 v127:=Tryz.zeroValue200 }
theorem Tryz.Builder_Extra_169:Builder.Extra μ Tryz.lays169_ren:={
 sizeBuilder:=by kernel_rfl
 liesBuilder:=by kernel_rfl
 t5:=Tryz.underlying5
 a5:=Tryz.isAgg5
 z5:=Tryz.sizeOf5
 v5:=Tryz.zeroValue5
 infoByte:=by kernel_rfl
 cellsByte:=by kernel_rfl
 sizeByte:=by kernel_rfl
 neB5:=by decide }
open Go.RowKit in
theorem Tryz.Builder_WriteString(B b:Nat)(bs:List XU)(s:ByteArray)(w:ο)(h:Lib.IsBuilder 203 5 B b bs w)(hlen:bs.length+s.size<=140737488355328)(hBw:B<=w.heap.size) :
 XR μ 142 #[ψ (ς ⟨b,0,ν⟩),τ s] w λe w'=>e=ρ (θ #[ι κ s.size,.nilIface])/\(Lib.BuilderAt 203 5 B b (ψ (ς ⟨b,0,ν⟩)) (bs ++ Lib.strCells s) w'/\υ B w w'):=Any.Builder_WriteString Tryz.lays166 Tryz.Builder_Extra_166 B b bs s w h hlen hBw
open Go.RowKit in
theorem Tryz.Builder_String_any(B b:Nat)(l:List UInt8)(w:ο)(h:Lib.IsBuilder 203 5 B b (Lib.byteCells l) w)(hBw:B<=w.heap.size) :
 XR μ 143 #[ψ (ς ⟨b,0,ν⟩)] w λe w'=>e=ρ (τ ⟨l.toArray⟩)/\υ B w w':=Any.Builder_String_any Tryz.lays169 Tryz.Builder_Extra_169 B b l w h hBw
end Go.Proofs.YtfnfdllflgmhnaaGreatDoor
namespace Go.Proofs.YtfnfdllflgmhnaaGreatDoor
open Go.RowKit
set_option maxRecDepth 20000
set_option maxHeartbeats 4000000
def Bd(w:ο)(B b:Nat)(L:List UInt8):Prop:=Lib.IsBuilder 203 5 B b (Lib.byteCells L) w
theorem Bd.later{w w':ο}{B b:Nat}{L:List UInt8}(h:Bd w B b L)(hb:υ w.heap.size w w'):Bd w' B b L:=by
 have one:∀ p,Lib.BuilderAt 203 5 B b p (Lib.byteCells L) w->Lib.BuilderAt 203 5 B b p (Lib.byteCells L) w':=λp ⟨h1,v,h2,h3,h4⟩=>
  ⟨h1,v,(hb.block b (XS.1 h2).1).trans h2,AH h3 hb,h4⟩
 exact h.elim (λx=>.inl (one _ x)) (λx=>.inr (one _ x))
theorem Bd.new(w:ο):Bd (w.alloc (γ #[ψ ν,σ ν 0 0] 203)) w.heap.size w.heap.size []:=
 .inl ⟨XK _,σ ν 0 0,η w _,World.ownsRow_nil _ _ _ _,by simp [Value.ownBlock]⟩
theorem Bd.write(w:ο)(B b:Nat)(L:List UInt8)(s:ByteArray)(h:Bd w B b L)(hl:L.length+s.size<=140737488355328)(hB:B<=w.heap.size) :
 XR μ 142 #[ψ (ς ⟨b,0,ν⟩),τ s] w λe w'=>e=ρ (θ #[ι κ s.size,.nilIface])/\Bd w' B b (L ++ s.data.toList)/\υ B w w':=by
 refine(Tryz.Builder_WriteString B b (Lib.byteCells L) s w h (by simpa [Lib.byteCells] using hl) hB).mono λe w' ⟨h1,h2,h3⟩=>⟨h1,.inr ?_,h3⟩;have e:Lib.byteCells L ++ Lib.strCells s=Lib.byteCells (L ++ s.data.toList):=by simp [Lib.byteCells,Lib.strCells]
 rw [←e];exact h2
theorem Bd.str(w:ο)(B b:Nat)(L:List UInt8)(h:Bd w B b L)(hB:B<=w.heap.size) :
 XR μ 143 #[ψ (ς ⟨b,0,ν⟩)] w λe w'=>e=ρ (τ (bs L))/\υ B w w':=Tryz.Builder_String_any B b L w h hB
theorem Im{c:Clm}(h:c.s.size<=1048576):(CZ c).length<=1048600:=by simp [CZ,As,AG];omega
theorem Hy{i:Itm}(h:i.s.size<=1048576):(A4 i).length<=1048600:=by
 unfold A4;rw [XQ,AG];split <;> simp [AG,CR] <;> omega
theorem Gc{i:Itm}(h:i.s.size<=1048576):(Bh i).length<=1048600:=by
 unfold Bh;rw [XQ,AG];(repeat' split) <;> simp [AG,As,CR] <;> omega
theorem TT(a:Option Addr)(n c:Nat)(C:Nat->Clm)(w:ο)(h:CL w a n C)(hn:n<=1048576) :
 XR μ 96 #[σ a n c,ι κ 1,.func (.func 97) #[] #[]] w λe w'=>e=ρ (τ (bs (AJ 1 n ++ AU (λj=>CZ (C j)) n)))/\υ w.heap.size w w':=by
 have z0:(bs (AJ 1 (n:Int))).size<=1:=by rw [AI,AG];omega
 have hB0:=Bd.new w;have hb0:=AE w (γ #[ψ ν,σ ν 0 0] 203);have hz0:(w.alloc (γ #[ψ ν,σ ν 0 0] 203)).heap.size=w.heap.size+1:=by simp
 go_enter Tryz.func96,Tryz.ntmps96
 go_wp2_with (first | (go_at_call 94;refine(Ih n _).mono ?_;rintro e w1 ⟨rfl,hb1⟩;have hB1:=hB0.later hb1;have s1:=hb1.size) | (go_at_call 142;refine(Bd.write _ _ _ _ _ hB1 (by simp;omega) (by omega)).mono ?_;rintro e w2 ⟨rfl,hB2,hb2⟩;rw [Bw,Xk] at hB2;have s2:=hb2.size;replace hb2:=(hb0.trans (hb1.mono hb0.size)).trans hb2))
 go_loopw [18] (λi wr=>∃ k:Nat,k<=n/\i=ι κ k/\Bd wr w.heap.size w.heap.size (AJ 1 n ++ AU (λj=>CZ (C j)) k)/\υ w.heap.size w wr) (λi _=>n - (XX i).toNat)
 case atStart=>exact⟨0,by omega,rfl,by rw [AU,List.append_nil];exact hB2,hb2⟩
 case round=>
  obtain⟨k,hk,rfl,hBk,hb⟩:=hrel;have sr:=hb.size;by_cases hlt:k<n
  ·
   have HL:Hid (AU (λj=>CZ (C j)) (k+1)=AU (λj=>CZ (C j)) k ++ CZ (C k)):=rfl;obtain⟨b',off,rfl,d0,d1,hs⟩:=h.later hb k hlt;have zc:(bs (CZ (C k))).size<=1048600:=by rw [AI];exact Im hs
   have hlen:(AJ 1 n ++ AU (λj=>CZ (C j)) k).length<=8+k * 1048600:=by
    have:=BQ (B:=λj=>CZ (C j)) (c:=1048600) (n:=k) (λj hj=>Im (h j (by omega)).choose_spec.choose_spec.2.2.2);rw [XQ,AG];omega
   have hmul:k * 1048600<=1048576 * 1048600:=Nat.mul_le_mul_right _ (by omega);go_wp2_with (first | (go_at_call 97;refine(WC (C k) _ hs).mono ?_;rintro e w3 ⟨rfl,hb3⟩;have hB3:=(hBk.later (AE wr _)).later hb3;replace hb3:=bj hb hb3;have sz3:=hb3.size) | (go_at_call 142;refine(Bd.write _ _ _ _ _ hB3 (by omega) (by omega)).mono ?_;rintro e w4 ⟨rfl,hB4,hb4⟩;rw [Bw] at hB4;replace hb4:=hb3.trans hb4))
   go_roundw
   case rel=>exact⟨k+1,by omega,by go_num,by rw [HL.out,←List.append_assoc];exact hB4,hb4⟩
   case measure=>simp [XX];omega
  ·
   obtain rfl:k=n:=by omega
   go_wp2_with (go_at_call 143;refine(Bd.str _ _ _ _ hBk (by omega)).mono ?_;rintro e w5 ⟨rfl,hb5⟩;replace hb5:=hb.trans hb5)
   go_ret
   exact⟨rfl,hb5⟩
theorem TG(a:Option Addr)(n c:Nat)(I:Nat->Itm)(w:ο)(h:IL w a n I)(hn:n<=1048576) :
 XR μ 98 #[σ a n c,ι κ 1,.func (.func 99) #[] #[]] w λe w'=>e=ρ (τ (bs (AJ 1 n ++ AU (λj=>A4 (I j)) n)))/\υ w.heap.size w w':=by
 have z0:(bs (AJ 1 (n:Int))).size<=1:=by rw [AI,AG];omega
 have hB0:=Bd.new w;have hb0:=AE w (γ #[ψ ν,σ ν 0 0] 203);have hz0:(w.alloc (γ #[ψ ν,σ ν 0 0] 203)).heap.size=w.heap.size+1:=by simp
 go_enter Tryz.func98,Tryz.ntmps98
 go_wp2_with (first | (go_at_call 94;refine(Ih n _).mono ?_;rintro e w1 ⟨rfl,hb1⟩;have hB1:=hB0.later hb1;have s1:=hb1.size) | (go_at_call 142;refine(Bd.write _ _ _ _ _ hB1 (by simp;omega) (by omega)).mono ?_;rintro e w2 ⟨rfl,hB2,hb2⟩;rw [Bw,Xk] at hB2;have s2:=hb2.size;replace hb2:=(hb0.trans (hb1.mono hb0.size)).trans hb2))
 go_loopw [18] (λi wr=>∃ k:Nat,k<=n/\i=ι κ k/\Bd wr w.heap.size w.heap.size (AJ 1 n ++ AU (λj=>A4 (I j)) k)/\υ w.heap.size w wr) (λi _=>n - (XX i).toNat)
 case atStart=>exact⟨0,by omega,rfl,by rw [AU,List.append_nil];exact hB2,hb2⟩
 case round=>
  obtain⟨k,hk,rfl,hBk,hb⟩:=hrel;have sr:=hb.size;by_cases hlt:k<n
  ·
   have HL:Hid (AU (λj=>A4 (I j)) (k+1)=AU (λj=>A4 (I j)) k ++ A4 (I k)):=rfl;obtain⟨b',off,rfl,d0,d1,d2,hs⟩:=h.later hb k hlt;have zc:(bs (A4 (I k))).size<=1048600:=by rw [AI];exact Hy hs
   have hlen:(AJ 1 n ++ AU (λj=>A4 (I j)) k).length<=8+k * 1048600:=by
    have:=BQ (B:=λj=>A4 (I j)) (c:=1048600) (n:=k) (λj hj=>Hy (h j (by omega)).choose_spec.choose_spec.2.2.2.2);rw [XQ,AG];omega
   have hmul:k * 1048600<=1048576 * 1048600:=Nat.mul_le_mul_right _ (by omega);go_wp2_with (first | (go_at_call 99;refine(Vd (I k) _ hs).mono ?_;rintro e w3 ⟨rfl,hb3⟩;have hB3:=(hBk.later (AE wr _)).later hb3;replace hb3:=bj hb hb3;have sz3:=hb3.size) | (go_at_call 142;refine(Bd.write _ _ _ _ _ hB3 (by omega) (by omega)).mono ?_;rintro e w4 ⟨rfl,hB4,hb4⟩;rw [Bw] at hB4;replace hb4:=hb3.trans hb4))
   go_roundw
   case rel=>exact⟨k+1,by omega,by go_num,by rw [HL.out,←List.append_assoc];exact hB4,hb4⟩
   case measure=>simp [XX];omega
  ·
   obtain rfl:k=n:=by omega
   go_wp2_with (go_at_call 143;refine(Bd.str _ _ _ _ hBk (by omega)).mono ?_;rintro e w5 ⟨rfl,hb5⟩;replace hb5:=hb.trans hb5)
   go_ret
   exact⟨rfl,hb5⟩
theorem TQ(a:Option Addr)(n c:Nat)(I:Nat->Itm)(w:ο)(h:IL w a n I)(hn:n<=1048576) :
 XR μ 144 #[σ a n c,ι κ 2,.func (.func 145) #[] #[]] w λe w'=>e=ρ (τ (bs (AJ 2 n ++ AU (λj=>Bh (I j)) n)))/\υ w.heap.size w w':=by
 have z0:(bs (AJ 2 (n:Int))).size<=2:=by rw [AI,AG];omega
 have hB0:=Bd.new w;have hb0:=AE w (γ #[ψ ν,σ ν 0 0] 203);have hz0:(w.alloc (γ #[ψ ν,σ ν 0 0] 203)).heap.size=w.heap.size+1:=by simp
 go_enter Tryz.func144,Tryz.ntmps144
 go_wp2_with (first | (go_at_call 94;refine(RY n _).mono ?_;rintro e w1 ⟨rfl,hb1⟩;have hB1:=hB0.later hb1;have s1:=hb1.size) | (go_at_call 142;refine(Bd.write _ _ _ _ _ hB1 (by simp;omega) (by omega)).mono ?_;rintro e w2 ⟨rfl,hB2,hb2⟩;rw [Bw,Xk] at hB2;have s2:=hb2.size;replace hb2:=(hb0.trans (hb1.mono hb0.size)).trans hb2))
 go_loopw [18] (λi wr=>∃ k:Nat,k<=n/\i=ι κ k/\Bd wr w.heap.size w.heap.size (AJ 2 n ++ AU (λj=>Bh (I j)) k)/\υ w.heap.size w wr) (λi _=>n - (XX i).toNat)
 case atStart=>exact⟨0,by omega,rfl,by rw [AU,List.append_nil];exact hB2,hb2⟩
 case round=>
  obtain⟨k,hk,rfl,hBk,hb⟩:=hrel;have sr:=hb.size;by_cases hlt:k<n
  ·
   have HL:Hid (AU (λj=>Bh (I j)) (k+1)=AU (λj=>Bh (I j)) k ++ Bh (I k)):=rfl;obtain⟨b',off,rfl,d0,d1,d2,hs⟩:=h.later hb k hlt;have zc:(bs (Bh (I k))).size<=1048600:=by rw [AI];exact Gc hs
   have hlen:(AJ 2 n ++ AU (λj=>Bh (I j)) k).length<=8+k * 1048600:=by
    have:=BQ (B:=λj=>Bh (I j)) (c:=1048600) (n:=k) (λj hj=>Gc (h j (by omega)).choose_spec.choose_spec.2.2.2.2);rw [XQ,AG];omega
   have hmul:k * 1048600<=1048576 * 1048600:=Nat.mul_le_mul_right _ (by omega);go_wp2_with (first | (go_at_call 145;refine(Vp (I k) _ hs).mono ?_;rintro e w3 ⟨rfl,hb3⟩;have hB3:=(hBk.later (AE wr _)).later hb3;replace hb3:=bj hb hb3;have sz3:=hb3.size) | (go_at_call 142;refine(Bd.write _ _ _ _ _ hB3 (by omega) (by omega)).mono ?_;rintro e w4 ⟨rfl,hB4,hb4⟩;rw [Bw] at hB4;replace hb4:=hb3.trans hb4))
   go_roundw
   case rel=>exact⟨k+1,by omega,by go_num,by rw [HL.out,←List.append_assoc];exact hB4,hb4⟩
   case measure=>simp [XX];omega
  ·
   obtain rfl:k=n:=by omega
   go_wp2_with (go_at_call 143;refine(Bd.str _ _ _ _ hBk (by omega)).mono ?_;rintro e w5 ⟨rfl,hb5⟩;replace hb5:=hb.trans hb5)
   go_ret
   exact⟨rfl,hb5⟩
theorem Ie(a:Option Addr)(n c:Nat)(I:Nat->Itm)(w:ο)(h:IL w a n I)(hn:n<=1048576):XR μ 100 #[σ a n c] w λe w'=>e=ρ (τ (bs (Am I n)))/\υ w.heap.size w w':=by
 go_enter Tryz.func100,Tryz.ntmps100
 go_wp2_with (go_at_call 144;refine(TQ a n c I _ h hn).mono ?_;rintro e w1 ⟨rfl,hb1⟩)
 go_ret
 exact⟨rfl,hb1⟩
theorem TP(a:Option Addr)(n c:Nat)(m:Nat->Nat)(O:Nat->Nat->Itm)(w:ο)(h:OL w a n m O)(hm:∀ j,j<n->m j<=100)(ht:∀ j,j<n->∀ q,q<m j->(O j q).s.size<=200)(hn:n<=1048576) :
 XR μ 101 #[σ a n c,ι κ 1,.func (.func 100) #[] #[]] w λe w'=>e=ρ (τ (bs (AJ 1 n ++ AU (λj=>Am (O j) (m j)) n)))/\υ w.heap.size w w':=by
 have z0:(bs (AJ 1 (n:Int))).size<=1:=by rw [AI,AG];omega
 have hB0:=Bd.new w;have hb0:=AE w (γ #[ψ ν,σ ν 0 0] 203);have hz0:(w.alloc (γ #[ψ ν,σ ν 0 0] 203)).heap.size=w.heap.size+1:=by simp
 go_enter Tryz.func101,Tryz.ntmps101
 go_wp2_with (first | (go_at_call 94;refine(Ih n _).mono ?_;rintro e w1 ⟨rfl,hb1⟩;have hB1:=hB0.later hb1;have s1:=hb1.size) | (go_at_call 142;refine(Bd.write _ _ _ _ _ hB1 (by simp;omega) (by omega)).mono ?_;rintro e w2 ⟨rfl,hB2,hb2⟩;rw [Bw,Xk] at hB2;have s2:=hb2.size;replace hb2:=(hb0.trans (hb1.mono hb0.size)).trans hb2))
 go_loopw [18] (λi wr=>∃ k:Nat,k<=n/\i=ι κ k/\Bd wr w.heap.size w.heap.size (AJ 1 n ++ AU (λj=>Am (O j) (m j)) k)/\υ w.heap.size w wr) (λi _=>n - (XX i).toNat)
 case atStart=>exact⟨0,by omega,rfl,by rw [AU,List.append_nil];exact hB2,hb2⟩
 case round=>
  obtain⟨k,hk,rfl,hBk,hb⟩:=hrel;have sr:=hb.size;by_cases hlt:k<n
  ·
   have HL:Hid (AU (λj=>Am (O j) (m j)) (k+1)=AU (λj=>Am (O j) (m j)) k ++ Am (O k) (m k)):=rfl;obtain⟨b',off,i,c',rfl,d0,di,dm⟩:=h.later hb k hlt;have zc:(bs (Am (O k) (m k))).size<=30002:=by rw [AI];exact BX (hm k hlt) (ht k hlt)
   have hlen:(AJ 1 n ++ AU (λj=>Am (O j) (m j)) k).length<=8+k * 30002:=by
    have:=BQ (B:=λj=>Am (O j) (m j)) (c:=30002) (n:=k) (λj hj=>BX (hm j (by omega)) (ht j (by omega)));rw [XQ,AG];omega
   have hmul:k * 30002<=1048576 * 30002:=Nat.mul_le_mul_right _ (by omega);go_wp2_with (first | (go_at_call 100;refine(Ie i _ c' _ _ di dm).mono ?_;rintro e w3 ⟨rfl,hb3⟩;have hB3:=hBk.later hb3;replace hb3:=AA hb hb3;have sz3:=hb3.size) | (go_at_call 142;refine(Bd.write _ _ _ _ _ hB3 (by omega) (by omega)).mono ?_;rintro e w4 ⟨rfl,hB4,hb4⟩;rw [Bw] at hB4;replace hb4:=hb3.trans hb4))
   go_roundw
   case rel=>exact⟨k+1,by omega,by go_num,by rw [HL.out,←List.append_assoc];exact hB4,hb4⟩
   case measure=>simp [XX];omega
  ·
   obtain rfl:k=n:=by omega
   go_wp2_with (go_at_call 143;refine(Bd.str _ _ _ _ hBk (by omega)).mono ?_;rintro e w5 ⟨rfl,hb5⟩;replace hb5:=hb.trans hb5)
   go_ret
   exact⟨rfl,hb5⟩
