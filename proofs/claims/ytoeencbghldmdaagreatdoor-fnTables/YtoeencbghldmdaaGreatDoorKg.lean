import Derived.Test.YtoeencbghldmdaaGreatDoorEa
import Derived.Test.YtoeencbghldmdaaGreatDoorTf
import Derived.Lib.ConvBytes
import Derived.Lib.JoinLaws
import Derived.Lib.AppendStr
import Derived.Test.YtoeencbghldmdaaGreatDoorXc
import Derived.Test.YtoeencbghldmdaaGreatDoorUc
import Derived.Deep.RegionHeld3
import Derived.Laws.DeepStrings4
open Array renaming getElem?_eq_some_iff → VL
open Bool renaming and_eq_true → VO
open Go renaming Calls → VK, Value → VN, World → ο, cell_of_row → ε, frozen_of_row → ζ, heap_alloc_new → η, wpAnyH_done → VP, wp_region_held_drew → VH, heap_setCell_same → π
open Go.Ending renaming returned → ρ
open Go.Ground renaming data → φ
open Go.IntKind renaming i64 → κ
open Go.Obj renaming cells → γ
open Go.Operand renaming tmp → δ
open Go.Proofs.Tryz renaming prog → μ
open Go.RowKit renaming Below → υ, intOf → VQ
open Go.RowKit.Below renaming refl → VT
open Go.Value renaming int → ι, slice → σ, string → τ, agg → χ, bool → β, pointer → ψ
open List renaming length_append → VJ
open Nat renaming le_refl → VD, zero_add → VM, le_trans → VX
open Option renaming none → ν, some → ς
open Option.some renaming inj → VF
open Or renaming inl → VV, inr → Vb
namespace Go.Proofs.YtoeencbghldmdaaGreatDoor
open Go.RowKit
set_option maxRecDepth 20000
set_option maxHeartbeats 4000000
theorem Hp{B g:Nat}{a w:ο}(o:Nat)(vs:List VN)(hb:υ B a w)(hg:B<=g):υ B a (w.setCells g o vs):=by
 induction vs generalizing o w with
 | nil=>exact hb
 | cons v r ih=>exact ih (o+1) (hb.setCell hg v)
theorem FD(w:ο)(g i:Nat)(h:i≠g)(o:Nat)(vs:List VN):(w.setCells g o vs).heap[i]?=w.heap[i]?:=by
 induction vs generalizing o w with
 | nil=>rfl
 | cons v r ih=>exact(ih _ _).trans (heap_setCell_other _ _ _ _ (by simpa using h))
theorem Hz(w:ο)(g o:Nat)(vs:List VN):(w.setCells g o vs).heap.size=w.heap.size:=by
 induction vs generalizing o w with
 | nil=>rfl
 | cons v r ih=>exact(ih _ _).trans (by simp)
structure RwE(w:ο)(B g n cap:Nat)(L:List UInt8):Prop where
 hB:B<=g
 lt:g<w.heap.size
 len:L.length=n
 le:n<=cap
 cs:∀ j (hj:j<L.length),w.cell? ⟨g,j,ν⟩=ς (ι .u8 (L[j].toNat:Int))
 sp:∀ j,j<cap->(w.cell? ⟨g,j,ν⟩).isSome=true
 fz:∀ j,n<=j->j<cap->w.frozen? ⟨g,j,ν⟩=false
theorem RwE.kept{w w':ο}{B g n cap:Nat}{L:List UInt8}{r:Option Nat}(h:RwE w B g n cap L)(hg:w.grownBy w' r)(hr:r≠ς g):RwE w' B g n cap L:=by
 have e:w'.heap[g]?=w.heap[g]?:=hg.block g h.lt (λe=>hr e.symm);have c:∀ j,w'.cell? ⟨g,j,ν⟩=w.cell? ⟨g,j,ν⟩:=λj=>World.cell?_of_block e;have f:∀ j,w'.frozen? ⟨g,j,ν⟩=w.frozen? ⟨g,j,ν⟩:=λj=>World.frozen?_of_block e;exact⟨h.hB,Nat.lt_of_lt_of_le h.lt hg.size,h.len,h.le,λj hj=>(c j).trans (h.cs j hj),λj hj=>by rw [c];exact h.sp j hj,λj h1 h2=>by rw [f];exact h.fz j h1 h2⟩
theorem RwE.later{w w':ο}{B g n cap:Nat}{L:List UInt8}(h:RwE w B g n cap L)(hb:υ w.heap.size w w'):RwE w' B g n cap L:=
 h.kept (r:=ν) ⟨hb.os,hb.tape,hb.output,hb.size,λk hk _=>hb.block k hk⟩ (λe=>by cases e)
theorem GE(g j:Nat):(⟨g,0,ν⟩:Addr).add j=⟨g,j,ν⟩:=by unfold Addr.add;split <;> simp_all
theorem RwE.conv{w:ο}{B g n cap:Nat}{L:List UInt8}(h:RwE w B g n cap L):(convert 22 9 (σ (ς ⟨g,0,ν⟩) n cap)).run μ w=.ok (τ ⟨L.toArray⟩) w:=by
 obtain⟨-,-,rfl,-,hc,-,-⟩:=h;refine run_convert_bytes_back w 22 9 5 ⟨g,0,ν⟩ cap L Tryz.underlying22 Tryz.underlying5 Tryz.underlying9 (λj hj=>?_);rw [GE];exact hc j hj
theorem GZ(w:ο)(e:TypeId)(s:ByteArray):(Lib.bytesCells w e s).size=grownCap w s.size 0 e:=by
 have h1:s.size<=grownCap w s.size 0 e:=grownCap_ge w s.size 0 e;have h2:s.data.size=s.size:=rfl;unfold Lib.bytesCells;simp only [Array.size_append,Array.size_map,Array.size_replicate]
 omega
theorem RwE.new(w:ο)(s:ByteArray):RwE (Lib.bytesWorld w 5 s) w.heap.size w.heap.size s.size (grownCap w s.size 0 5) s.data.toList:=by
 have hz:=GZ w 5 s;have hn:=Lib.bytesWorld_at_new w 5 s;refine⟨VD _,by rw [Lib.bytesWorld_size];omega,by simp,grownCap_ge _ _ _ _,λj hj=>?_,λj hj=>?_,λj h1 h2=>?_⟩
 ·
  have hj':j<s.size:=by simpa using hj
  rw [Lib.bytesWorld_cell w _ s j hj'];have hj2:j<s.data.size:=by simpa using hj
  simp only [List.getD,Array.getElem?_toList,Array.getElem_toList]
  rw [Array.getElem?_eq_getElem hj2];rfl
 · rw [ε _ _ j _ _ _ hn,Array.getElem?_eq_getElem (by omega)];rfl
 ·
  simp only [World.frozen?,hn,Bool.and_eq_false_iff,decide_eq_false_iff_not]
  left
  omega
theorem Tl(w:ο)(s:ByteArray):υ w.heap.size w (Lib.bytesWorld w 5 s):=
 ⟨rfl,rfl,rfl,by rw [Lib.bytesWorld_size];omega,λk hk=>Lib.bytesWorld_at_old w _ s k hk⟩
theorem IC(s:ByteArray):(byteCells s).length=s.size:=by simp [byteCells]
theorem KL(L:List UInt8)(s:ByteArray)(j:Nat)(hj:j<(L ++ s.data.toList).length)(h:L.length<=j)(h2:j - L.length<(byteCells s).length):(byteCells s)[j - L.length]=ι .u8 (((L ++ s.data.toList)[j]).toNat:Int):=by
 simp only [byteCells,List.getElem_map]
 rw [List.getElem_append_right h]
theorem ED{ops:Array Oper}{rest:List Oper}{o:Oper}{a:Act}{Q:Exit->Act->ο->Prop}{w:ο}(hgd:o.guard=ν)(sl x:Operand)
 (ho:o.op=.call { callee:=.builtin .append,args:=#[sl,x],argTypes:=#[22,9] })
 (B g n cap:Nat) (L:List UInt8) (hs:a.eval sl=σ (ς ⟨g,0,ν⟩) n cap) (hR:RwE w B g n cap L) (s:ByteArray) (hx:a.eval x=τ s) (hl:n+s.size<=1048576) (hB:B<=w.heap.size)
 (h:∀ g' cap' w',RwE w' B g' (n+s.size) cap' (L ++ s.data.toList)->w.grownBy w' (ς g)->wpList μ ops Q rest (a.put o.dst (σ (ς ⟨g',0,ν⟩) (n+s.size) cap')) w'):wpList μ ops Q (o :: rest) a w:=by
 obtain⟨h1,h2,h3,h4,h5,h6,h7⟩:=id hR;have hlen:(L ++ s.data.toList).length=n+s.size:=by simp [h3]
 have hbl:=IC s;by_cases hroom:n+s.size<=cap
 ·
  have hc:∀ j,j<(byteCells s).length->(w.cell? ⟨g,0+n+j,ν⟩).isSome=true:=λj hj=>h6 _ (by omega);have hc':∀ j,j<(byteCells s).length->(w.cell? ⟨g,n+j,ν⟩).isSome=true:=λj hj=>h6 _ (by omega);refine wpList_append_room1 w hgd sl x 22 9 ho 5 (ι .u8 0) 1 Tryz.underlying22 Tryz.infoB g 0 n cap hs (τ s) hx s.size (byteCells s) (Src.ofString w Tryz.underlying9 s) hroom hc (λj hj=>h7 _ (by omega) (by omega)) ?_;rw [VM];refine h g cap _ ⟨h1,by rw [Hz];exact h2,hlen,hroom,λj hj=>?_,λj hj=>World.isSome_setCells _ _ _ _ _ (h6 j hj),λj ha hb=>by rw [World.frozen?_setCells];exact h7 j (by omega) hb⟩ ?_
  ·
   by_cases hjn:j<n
   · rw [World.cell?_setCells_out _ _ _ _ _ (λ_ _=>VV hjn)];have:=h5 j (by omega);rw [this,List.getElem_append_left]
   · have:=World.cell?_setCells_in g (byteCells s) n w hc' (j - n) (by omega);rw [show n+(j - n)=j by omega] at this;rw [this];subst h3;rw [KL L s j hj (by omega)]
  · have hb:=Hp n (byteCells s) (VT g w) (VD g);exact⟨hb.os,hb.tape,hb.output,hb.size,λk _ hne=>FD w g k (λe=>hne (by rw [e])) n (byteCells s)⟩
 ·
  obtain⟨i,hi,hz0,hz1,hz2⟩:=info_parts Tryz.infoB;have hr:=Lib.run_append_grow_string (P:=μ) w 22 9 o.type 5 i (ι .u8 0) Tryz.underlying22 Tryz.underlying9 hi hz0 ⟨g,0,ν⟩ n cap (Be L) (by simp [Be,h3,hz1]) (λj v hv=>by
   rw [GE];have hj:j<L.length:=by
    rcases Nat.lt_or_ge j L.length with hlt | hge
    · exact hlt
    · simp [Be,hge] at hv
   rw [h5 j hj];simpa [Be,hj] using hv) s (by omega) (by omega) (by rw [hz2];exact growslice_fits (by omega) (by omega))
  have hA:(Be L).toArray ++ (Lib.strCells s).toArray=(Be (L ++ s.data.toList)).toArray:=by simp [Be,Lib.strCells]
  have hge:n+s.size<=grownCap w (n+s.size) cap 5:=grownCap_ge _ _ _ _;refine wpList_plain hgd λK hK=>?_;unfold Oper.wp execOp;simp only [ho,resolve,invoke,builtin,Sem.run_bind,Sem.run_pure,Result.andThen_ok,List.map_toArray,List.map_cons,List.map_nil,hs,hx,hr]
  refine hK _ _ (h _ _ _ ⟨hB,by simp,hlen,hge,λj hj=>?_,λj hj=>?_,λj _ _=>ζ _ _ j _ _ (η w.drew _)⟩ ⟨rfl,rfl,rfl,by simp,λk hk _=>Below.heap_alloc _ _ _ hk⟩)
  · rw [hA];refine(ε _ w.heap.size j _ _ _ (η w.drew _)).trans ?_;rw [Array.getElem?_append_left (by simpa [Be] using hj),List.getElem?_toArray];unfold Be;rw [List.getElem?_map,List.getElem?_eq_getElem hj];rfl
  ·
   rw [hA];refine Eq.trans (congrArg Option.isSome (ε _ w.heap.size j _ _ _ (η w.drew _))) ?_;rw [Array.getElem?_eq_getElem (by
    rw [Array.size_append,size_zeroCells];have e1:(Be (L ++ s.data.toList)).toArray.size=n+s.size:=by simpa [Be] using hlen
    have e2:(ι IntKind.u8 0).cells.size=1:=rfl;rw [e1,e2];omega)]
   rfl
theorem F0{w w':ο}{B:Nat}{r:Option Nat}(h:w.grownBy w' r)(hr:∀ k,r=ς k->B<=k)(hB:B<=w.heap.size):υ B w w':=
 ⟨h.os,h.tape,h.output,h.size,λk hk=>h.block k (by omega) (λe=>by have:=hr k e.symm;omega)⟩
theorem Aw{w w':ο}{p:Addr}{v:VN}{r:Option Nat}(hg:w.grownBy w' r)(hc:w.cell? p=ς v)(hne:ς p.block≠r):w'.cell? p=ς v:=
 (World.cell?_of_block (hg.block p.block (World.block_lt_of_cell? _ _ hc) hne)).trans hc
theorem AV(L:List UInt8):(bs L).size=L.length:=by show L.toArray.size=_;simp
theorem Fy(L:List UInt8):(bs L).data.toList=L:=by simp [bs]
theorem Tv(s:ByteArray):bs s.data.toList=s:=by simp [bs]
theorem C7(L M:List UInt8):bs L ++ bs M=bs (L ++ M):=by
 apply ByteArray.ext
 simp [bs,ByteArray.data_append]
theorem MG(L:List UInt8)(s:ByteArray):bs L ++ s=bs (L ++ s.data.toList):=by rw [←C7,Tv]
def s8(s:ByteArray):List UInt8:=AX 1 s.size ++ s.data.toList
def NY(s:ByteArray):List UInt8:=AX 2 s.size ++ s.data.toList
theorem BP(s:ByteArray):(s8 s).length=1+s.size:=by simp [s8,AH]
theorem EI(s:ByteArray):(NY s).length=2+s.size:=by simp [NY,AH]
theorem QP(s:ByteArray)(w:ο)(hs:s.size<=1048576):VK μ 43 #[τ s] w λe w'=>e=ρ (τ (bs (s8 s)))/\υ w.heap.size w w':=by
 go_enter Tryz.func43,Tryz.ntmps43
 go_wp2_with (go_at_call 42;refine(Dq s.size _).mono ?_;rintro e w1 ⟨rfl,hb1⟩;have hz:(bs (AX 1 (s.size:Int))).size=1:=(by rw [AV,AH]))
 go_ret
 exact⟨congrArg (λx=>ρ (τ x)) (MG _ _),hb1⟩
theorem SB(s:ByteArray)(w:ο)(hs:s.size<=1048576):VK μ 44 #[τ s] w λe w'=>e=ρ (τ (bs (NY s)))/\υ w.heap.size w w':=by
 go_enter Tryz.func44,Tryz.ntmps44
 go_wp2_with (go_at_call 42;refine(QR s.size _).mono ?_;rintro e w1 ⟨rfl,hb1⟩;have hz:(bs (AX 2 (s.size:Int))).size=2:=(by rw [AV,AH]))
 go_ret
 exact⟨congrArg (λx=>ρ (τ x)) (MG _ _),hb1⟩
def CB(i:Itm):List UInt8:=AX 1 i.o ++ (if i.o=1 then AX 8 i.m else if i.o=2 then NY i.s else if i.o=3 then s8 i.s else [])
def Aj(B:Nat->List UInt8):Nat->List UInt8
 | 0=>[]
 | k+1=>Aj B k ++ B k
def BC(I:Nat->Itm)(n:Nat):List UInt8:=AX 2 n ++ Aj (λk=>CB (I k)) n
theorem Jw(i:Itm)(h:i.s.size<=200):(CB i).length<=300:=by
 unfold CB;rw [VJ,AH];(repeat' split) <;> simp [AH,BP,EI] <;> omega
theorem CI{B:Nat->List UInt8}{c:Nat}:∀ {n:Nat},(∀ k,k<n->(B k).length<=c)->(Aj B n).length<=n * c
 | 0,_=>by simp [Aj]
 | n+1,h=>by
  have h1:=CI (n:=n) (λk hk=>h k (by omega));have h2:=h n (by omega);rw [Aj,VJ,Nat.add_mul];omega
theorem Dz{I:Nat->Itm}{n:Nat}(hn:n<=100)(h:∀ k,k<n->(I k).s.size<=200):(BC I n).length<=30002:=by
 have:=CI (B:=λk=>CB (I k)) (c:=300) (n:=n) (λk hk=>Jw _ (h k hk));have h2:n * 300<=100 * 300:=Nat.mul_le_mul_right 300 hn;rw [BC,VJ,AH];omega
theorem Ji(a:Option Addr)(n c:Nat)(I:Nat->Itm)(w:ο)(h:IL w a n I)(hn:n<=100)(hs:∀ k,k<n->(I k).s.size<=200):VK μ 45 #[σ a n c] w λe w'=>e=ρ (τ (bs (BC I n)))/\υ w.heap.size w w':=by
 go_enter Tryz.func45,Tryz.ntmps45
 go_wp2_with (go_at_call 42;refine(QR n _).mono ?_;rintro e w1 ⟨rfl,hb1⟩;have hc:=Lib.run_convert_string_bytes (P:=μ) w1 9 22 5 (bs (AX 2 n)) Tryz.underlying9 Tryz.underlying22 Tryz.underlying5)
 have hT:(bs (AX 2 (n:Int))).size<=2:=by rw [AV,AH];omega
 have hR0:=RwE.new w1 (bs (AX 2 n));have hb2:=hb1.trans ((Tl w1 (bs (AX 2 n))).mono hb1.size);have hsz:=hb1.size;rw [Fy] at hR0;go_loopw [3,5,12] (λo _ i wr=>∃ (k m g cap:Nat),k<=n/\i=ι κ k/\o=σ (ς ⟨g,0,ν⟩) m cap/\m<=2+300 * k/\RwE wr w.heap.size g m cap (AX 2 n ++ Aj (λk=>CB (I k)) k)/\υ w.heap.size w wr) (λ_ _ i _=>n - (VQ i).toNat)
 case atStart=>exact⟨0,_,_,_,by omega,rfl,rfl,by omega,⟨by omega,hR0.lt,by rw [Aj,List.append_nil];exact hR0.len,hR0.le,by rw [Aj,List.append_nil];exact hR0.cs,hR0.sp,hR0.fz⟩,hb2⟩
 case round=>
  clear hc;obtain⟨k,m,g,cap,hk,rfl,rfl,hm,hR,hb⟩:=hrel;by_cases hlt:k<n
  ·
   have hsk:=hs k hlt;have HL:Hid (Aj (λk=>CB (I k)) (k+1)=Aj (λk=>CB (I k)) k ++ CB (I k)):=rfl;obtain⟨b,off,rfl,c0,c1,c2,-⟩:=h.later hb k hlt;have hsr:=hb.size;have hlg:=hR.lt;have hone:True:=trivial;have z1:(bs (AX 1 (I k).o)).size<=1:=by rw [AV,AH];omega
   have z8:(bs (AX 8 (I k).m)).size<=8:=by rw [AV,AH];omega
   have zs:(bs (NY (I k).s)).size<=202:=by rw [AV,EI];omega
   have zt:(bs (s8 (I k).s)).size<=201:=by rw [AV,BP];omega
   go_wp2_with (first | (go_at_call 42;have _h:=hone;refine(Dq (I k).o _).mono ?_;rintro e w2 ⟨rfl,hb3⟩;obtain⟨d0,d1,d2⟩:=IZ hb3;have hR2:=(hR.later (AD wr _)).later hb3;replace hb3:=bj hb hb3) | (at_builtin;have hs2:=hb3.size;refine ED rfl _ _ rfl w.heap.size g m cap _ rfl hR2 (bs (AX 1 (I k).o)) rfl (by omega) (by omega) ?_;intro g1 cap1 w3 hR3 hg3;rw [Fy] at hR3;replace d0:=Aw hg3 d0 (λe=>by have:=VF e;simp at this;omega);replace d1:=Aw hg3 d1 (λe=>by have:=VF e;simp at this;omega);replace d2:=Aw hg3 d2 (λe=>by have:=VF e;simp at this;omega);replace hg3:=hb3.trans (F0 hg3 (λq hq=>by have e:g=q:=VF hq;have:=hR.hB;omega) hs2);clear hR2 hone))
   ·
    go_wp2_with (first | (go_at_call 42;refine(QQ (I k).m _).mono ?_;rintro e w4 ⟨rfl,hb4⟩;have hR4:=hR3.later hb4;replace hb4:=hg3.trans (hb4.mono hg3.size)) | (at_builtin;have hs4:=hb4.size;refine ED rfl _ _ rfl w.heap.size g1 _ cap1 _ rfl hR4 (bs (AX 8 (I k).m)) rfl (by omega) (by omega) ?_;intro g2 cap2 w5 hR5 hg5;rw [Fy] at hR5;replace hg5:=hb4.trans (F0 hg5 (λq hq=>by have e:g1=q:=VF hq;have:=hR3.hB;omega) hs4)))
    have HQ:Hid (CB (I k)=AX 1 (I k).o ++ AX 8 (I k).m):=by
     simp only [beq_iff_eq] at *
     simp [Hid,CB, *]
    go_roundw
    case rel=>exact⟨k+1,_,g2,cap2,by omega,by go_num,rfl,by omega,by rw [HL.out,HQ.out];simpa using hR5,hg5⟩
    case measure=>simp [VQ];omega
   ·
    go_wp2_with (first | (go_at_call 44;refine(SB (I k).s _ (by omega)).mono ?_;rintro e w4 ⟨rfl,hb4⟩;have hR4:=hR3.later hb4;replace hb4:=hg3.trans (hb4.mono hg3.size)) | (at_builtin;have hs4:=hb4.size;refine ED rfl _ _ rfl w.heap.size g1 _ cap1 _ rfl hR4 (bs (NY (I k).s)) rfl (by omega) (by omega) ?_;intro g2 cap2 w5 hR5 hg5;rw [Fy] at hR5;replace hg5:=hb4.trans (F0 hg5 (λq hq=>by have e:g1=q:=VF hq;have:=hR3.hB;omega) hs4)))
    have HQ:Hid (CB (I k)=AX 1 (I k).o ++ NY (I k).s):=by
     simp only [beq_iff_eq,beq_eq_false_iff_ne,ne_eq] at *
     simp [Hid,CB, *]
    go_roundw
    case rel=>exact⟨k+1,_,g2,cap2,by omega,by go_num,rfl,by omega,by rw [HL.out,HQ.out];simpa using hR5,hg5⟩
    case measure=>simp [VQ];omega
   ·
    go_wp2_with (first | (go_at_call 43;refine(QP (I k).s _ (by omega)).mono ?_;rintro e w4 ⟨rfl,hb4⟩;have hR4:=hR3.later hb4;replace hb4:=hg3.trans (hb4.mono hg3.size)) | (at_builtin;have hs4:=hb4.size;refine ED rfl _ _ rfl w.heap.size g1 _ cap1 _ rfl hR4 (bs (s8 (I k).s)) rfl (by omega) (by omega) ?_;intro g2 cap2 w5 hR5 hg5;rw [Fy] at hR5;replace hg5:=hb4.trans (F0 hg5 (λq hq=>by have e:g1=q:=VF hq;have:=hR3.hB;omega) hs4)))
    have HQ:Hid (CB (I k)=AX 1 (I k).o ++ s8 (I k).s):=by
     simp only [beq_iff_eq,beq_eq_false_iff_ne,ne_eq] at *
     simp [Hid,CB, *]
    go_roundw
    case rel=>exact⟨k+1,_,g2,cap2,by omega,by go_num,rfl,by omega,by rw [HL.out,HQ.out];simpa using hR5,hg5⟩
    case measure=>simp [VQ];omega
   ·
    have HQ:Hid (CB (I k)=AX 1 (I k).o ++ []):=by
     simp only [beq_eq_false_iff_ne,ne_eq] at *
     simp [Hid,CB, *]
    go_roundw
    case rel=>exact⟨k+1,_,g1,cap1,by omega,by go_num,rfl,by omega,by rw [HL.out,HQ.out];simpa using hR3,hg3⟩
    case measure=>simp [VQ];omega
  ·
   obtain rfl:k=n:=by omega
   have hc:=hR.conv;go_wp2;go_ret
   exact⟨rfl,hb⟩
def DX(c:Clm):List UInt8:=s8 c.s ++ AX 1 c.t
def Bo(i:Itm):List UInt8:=AX 1 i.o ++ (if i.o=1 then AX 8 i.m else NY i.s)
theorem Bb{s:ByteArray}(h:AM s=true):s.size<=30:=by simp [AM,Cl] at h;omega
theorem EL{s:ByteArray}(h:A6 s=true):s.size<=200:=by simp [A6] at h;omega
theorem Cm{o m:Int}{s:ByteArray}(h:Aq o m s=true):s.size<=200:=by
 simp only [Aq,Bool.or_eq_true,VO,decide_eq_true_eq] at h
 rcases h with ((⟨-,h⟩ | ⟨-,h⟩) | ⟨-,h⟩) | ⟨-,h⟩
 · omega
 · exact EL h
 · have:=Bb h;omega
 · omega
theorem Eh{o m:Int}{s:ByteArray}(h:Aa o m s=true):s.size<=200:=by
 simp only [Aa,Bool.or_eq_true,VO,decide_eq_true_eq] at h
 rcases h with ⟨-,h⟩ | ⟨-,h⟩
 · omega
 · exact EL h
theorem Qb{I:Nat->Itm}:∀ {n:Nat} {d:Int},ex I n=ς d->∀ j,j<n->(I j).s.size<=200:=by
 intro n;induction n with
 | zero=>intro d _ j hj;omega
 | succ n ih=>
  intro d h j hj;rw [ex] at h;split at h
  · cases h
  ·
   rename_i x hx
   split at h
   ·
    rename_i hc
    by_cases e:j=n
    · subst e;exact Cm hc.1
    · exact ih hx j (by omega)
   · cases h
theorem F4{I:Nat->Itm}{n:Nat}(h:AZ I n=true):n<=100/\∀ j,j<n->(I j).s.size<=200:=by
 simp only [AZ,VO,decide_eq_true_eq] at h
 refine⟨?_,Qb h.2⟩;have:=h.1;simp [Bn] at this
 omega
theorem Dd{I:Nat->Itm}{n:Nat}(h:AI I n=true):n<=100/\∀ j,j<n->(I j).s.size<=200:=by
 simp only [AI,Bool.or_eq_true,decide_eq_true_eq] at h
 rcases h with rfl | h
 · exact⟨by omega,λj hj=>by omega⟩
 · exact F4 h
theorem JU{n:Nat}(h:Bn n 1 20=true):n<=20:=by simp [Bn] at h;omega
theorem EA{n:Nat}{p:Nat->Bool}(h:allN n p=true):∀ j,j<n->p j=true:=by
 unfold allN at h;rw [List.all_eq_true] at h;exact λj hj=>h j (List.mem_range.2 hj)
theorem DN{D:St}(h:AK D=true):D.tb.size<=30:=by
 simp only [AK,VO] at h
 exact Bb h.1.1.1
theorem Lh{D:St}(h:AK D=true):D.k=1∨D.k=2∨D.k=3∨D.k=4∨D.k=5:=by
 by_cases e1:D.k=1
 · exact .inl e1
 by_cases e2:D.k=2
 · exact .inr (.inl e2)
 by_cases e3:D.k=3
 · exact .inr (.inr (.inl e3))
 by_cases e4:D.k=4
 · exact .inr (.inr (.inr (.inl e4)))
 by_cases e5:D.k=5
 · exact .inr (.inr (.inr (.inr e5)))
 rw [Ql D e1 e2 e3 e4 e5] at h;cases h
theorem UX{D:St}(h:AK D=true)(e:D.k=1):D.n2<=20/\∀ j,j<D.n2->(D.C j).s.size<=30:=by
 rw [NP D e] at h;simp only [VO] at h
 refine⟨JU h.2.2.1,λj hj=>?_⟩;have:=EA h.2.2.2 j hj;simp only [BI,VO] at this
 exact Bb this.1
theorem UW{D:St}(h:AK D=true)(e:D.k=2):D.n3<=20/\∀ j,j<D.n3->(D.V j).s.size<=200:=by
 rw [PL D e] at h;simp only [VO] at h
 exact⟨JU h.2.2.1,λj hj=>Eh (EA h.2.2.2 j hj)⟩
theorem UV{D:St}(h:AK D=true)(e:D.k=3):D.col.size<=30/\(D.n5<=100/\∀ j,j<D.n5->(D.E j).s.size<=200)/\(D.n6<=100/\∀ j,j<D.n6->(D.W j).s.size<=200):=by
 rw [PK D e] at h;simp only [VO] at h
 exact⟨Bb h.2.2.1.1,F4 h.2.2.1.2,Dd h.2.2.2⟩
theorem Us{D:St}(h:AK D=true)(e:D.k=4):D.n6<=100/\∀ j,j<D.n6->(D.W j).s.size<=200:=by
 rw [PJ D e] at h;simp only [VO] at h
 exact Dd h.2.2
theorem Ur{D:St}(h:AK D=true)(e:D.k=5):D.n7<=20/\(∀ j,j<D.n7->D.m7 j<=100/\∀ q,q<D.m7 j->(D.O j q).s.size<=200)/\(D.n6<=100/\∀ j,j<D.n6->(D.W j).s.size<=200):=by
 rw [PI D e] at h;simp only [VO] at h
 exact⟨JU h.2.2.1.1,λj hj=>F4 (EA h.2.2.1.2 j hj),Dd h.2.2.2⟩
def GI(d:St):List UInt8:=
 if d.k=1 then AX 1 d.n2 ++ Aj (λj=>DX (d.C j)) d.n2
 else if d.k=2 then AX 1 d.n3 ++ Aj (λj=>Bo (d.V j)) d.n3
 else if d.k=3 then s8 d.col ++ BC d.E d.n5 ++ BC d.W d.n6
 else if d.k=4 then BC d.W d.n6
 else (AX 1 d.n7 ++ Aj (λj=>BC (d.O j) (d.m7 j)) d.n7) ++ BC d.W d.n6
def DI(d:St):List UInt8:=AX 1 d.k ++ s8 d.tb ++ GI d
def CT(d:St):ByteArray:=if AK d=true then (if 60000<(bs (DI d)).size then ⟨#[]⟩ else bs (DI d)) else ⟨#[]⟩
theorem GB{d:St}(h:AK d=false):CT d=⟨#[]⟩:=by simp [CT,h]
theorem Gn{d:St}{s:ByteArray}(h:AK d=true)(e:s=bs (DI d))(hs:60000<s.size):CT d=⟨#[]⟩:=by subst e;simp [CT,h,hs]
theorem E1{d:St}{s:ByteArray}(h:AK d=true)(e:s=bs (DI d))(hs:¬60000<s.size):CT d=s:=by subst e;simp [CT,h,hs]
theorem IP(k:Int)(tb:ByteArray)(n2:Nat)(C:Nat->Clm)(n3:Nat)(V:Nat->Itm)(col:ByteArray)(n5:Nat)(E:Nat->Itm)(n6:Nat)(W:Nat->Itm)(n7:Nat)(m7:Nat->Nat)(O:Nat->Nat->Itm)
 (a2:Option Addr) (c2:Nat) (a3:Option Addr) (c3:Nat) (a5:Option Addr) (c5:Nat) (a6:Option Addr) (c6:Nat) (a7:Option Addr) (c7:Nat) (D:St) (hD:Hid ((⟨k,tb,n2,C,n3,V,col,n5,E,n6,W,n7,m7,O⟩:St)=D))
 (w:ο) (h:SM w ⟨k,tb,n2,C,n3,V,col,n5,E,n6,W,n7,m7,O⟩ ⟨a2,c2,a3,c3,a5,c5,a6,c6,a7,c7⟩) :
 VK μ 18 #[χ #[ι κ k,τ tb,σ a2 n2 c2,σ a3 n3 c3,τ col,σ a5 n5 c5,σ a6 n6 c6,σ a7 n7 c7]] w λe w'=>e=ρ (β (AK D))/\υ w.heap.size w w':=by
 rw [←hD.out];exact UA ⟨k,tb,n2,C,n3,V,col,n5,E,n6,W,n7,m7,O⟩ ⟨a2,c2,a3,c3,a5,c5,a6,c6,a7,c7⟩ w h
end Go.Proofs.YtoeencbghldmdaaGreatDoor
namespace Go.Proofs.YtoeencbghldmdaaGreatDoor
open Go.RowKit Go.Maps Go.WideMaps
set_option maxRecDepth 400000
set_option maxHeartbeats 8000000
theorem SH(tb:ByteArray)(n2:Nat)(C:Nat->Clm)(n3:Nat)(V:Nat->Itm)(col:ByteArray)(n5:Nat)(E:Nat->Itm)(n6:Nat)(W:Nat->Itm)(n7:Nat)(m7:Nat->Nat)(O:Nat->Nat->Itm)
 (a2:Option Addr) (c2:Nat) (a3:Option Addr) (c3:Nat) (a5:Option Addr) (c5:Nat) (a6:Option Addr) (c6:Nat) (a7:Option Addr) (c7:Nat) (D:St) (hD:(⟨1,tb,n2,C,n3,V,col,n5,E,n6,W,n7,m7,O⟩:St)=D)
 (w:ο) (h:SM w ⟨1,tb,n2,C,n3,V,col,n5,E,n6,W,n7,m7,O⟩ ⟨a2,c2,a3,c3,a5,c5,a6,c6,a7,c7⟩) :
 VK μ 17 #[χ #[ι κ 1,τ tb,σ a2 n2 c2,σ a3 n3 c3,τ col,σ a5 n5 c5,σ a6 n6 c6,σ a7 n7 c7]] w λe w'=>e=ρ (τ (CT D))/\υ w.heap.size w w':=by
 have hb0:=AD w (γ #[ι κ 1,τ tb,σ a2 n2 c2,σ a3 n3 c3,τ col,σ a5 n5 c5,σ a6 n6 c6,σ a7 n7 c7] 34);have H0:=h.later hb0;have q0:B8 (w.alloc (γ #[ι κ 1,τ tb,σ a2 n2 c2,σ a3 n3 c3,τ col,σ a5 n5 c5,σ a6 n6 c6,σ a7 n7 c7] 34)) w.heap.size ⟨1,tb,n2,C,n3,V,col,n5,E,n6,W,n7,m7,O⟩ ⟨a2,c2,a3,c3,a5,c5,a6,c6,a7,c7⟩:=B8.new w ⟨1,tb,n2,C,n3,V,col,n5,E,n6,W,n7,m7,O⟩ ⟨a2,c2,a3,c3,a5,c5,a6,c6,a7,c7⟩ 34;obtain⟨htb,hcol,-,-,-,-,-,l2,l3,l5,l6,l7⟩:=id h;dsimp only at htb hcol l2 l3 l5 l6 l7
 replace hD:Hid ((⟨1,tb,n2,C,n3,V,col,n5,E,n6,W,n7,m7,O⟩:St)=D):=hD;have HL:Hid (DI D=AX 1 1 ++ s8 tb ++ (AX 1 n2 ++ Aj (λj=>DX (C j)) n2)):=by rw [←hD.out];rfl
 have HO:Hid (AK D=true->tb.size<=30/\n2<=20/\∀ j,j<n2->(C j).s.size<=30):=λx=>by
  rw [←hD.out] at x;exact⟨DN x,UX x rfl⟩
 go_enter Tryz.func17,Tryz.ntmps17
 go_wp2_with (go_at_call 18;refine(IP _ tb n2 C n3 V col n5 E n6 W n7 m7 O a2 c2 a3 c3 a5 c5 a6 c6 a7 c7 D hD _ H0).mono ?_;rintro e w1 ⟨rfl,hb1⟩;have H1:=H0.later hb1;have Q1:=q0.later hb1;obtain⟨q0,q1,q2,q3,q4,q5,q6,q7⟩:=id Q1;dsimp only at q0 q1 q2 q3 q4 q5 q6 q7;replace hb1:=AA hb0 hb1;rcases hok:AK D)
 ·
  go_ret
  exact⟨congrArg (λx=>ρ (τ x)) (GB hok).symm,hb1⟩
 obtain⟨htb',hn,hc⟩:=HO.out hok;have z1:(bs (AX 1 1)).size<=1:=by rw [AV,AH];omega
 have z2:(bs (s8 tb)).size<=31:=by rw [AV,BP];omega
 clear h H0 hb0 HO;have y0:¬9223372036854775807<(bs (AX 1 1)).size+(bs (s8 tb)).size:=by omega
 go_region_held3 (λw'=>w'.cell? ⟨w.heap.size,0,ν⟩=ς (ι κ 1)/\w'.cell? ⟨w.heap.size,1,ν⟩=ς (τ tb)) (first | exact⟨q0,q1⟩ | exact⟨r0,r1⟩ | exact⟨u0,u1⟩ | go_keep) (first | (go_at_call 42;refine(Dq 1 _).mono ?_;rintro e w2 ⟨rfl,hb2⟩;have H2:=H1.later (BO hb2);have Q2:=Q1.later (BO hb2);replace hb2:=AA hb1 (BO hb2);obtain⟨r0,r1,r2,r3,r4,r5,r6,r7⟩:=id Q2;dsimp only at r0 r1 r2 r3 r4 r5 r6 r7) | (go_at_call 43;refine(QP tb _ htb).mono ?_;rintro e w3 ⟨rfl,hb3⟩;have H3:=H2.later hb3;have Q3:=Q2.later hb3;replace hb3:=AA hb2 hb3;obtain⟨u0,u1,u2,u3,u4,u5,u6,u7⟩:=id Q3;dsimp only at u0 u1 u2 u3 u4 u5 u6 u7))
 have zn:(bs (AX 1 (n2:Int))).size<=1:=by rw [AV,AH];omega
 go_wp2_with (go_at_call 42;refine(Dq n2 _).mono ?_;rintro e w4 ⟨rfl,hb4⟩;have H4:=H3.later hb4;have Q4:=Q3.later hb4;replace hb4:=AA hb3 hb4;obtain⟨v0,v1,v2,v3,v4,v5,v6,v7⟩:=id Q4;dsimp only at v0 v1 v2 v3 v4 v5 v6 v7)
 go_loopw [3,5,33] (λo _ i wr=>∃ (k:Nat) (t:ByteArray),k<=n2/\i=ι κ k/\o=τ t/\t=bs (AX 1 1 ++ s8 tb ++ AX 1 n2 ++ Aj (λj=>DX (C j)) k)/\υ w4.heap.size w4 wr) (λ_ _ i _=>n2 - (VQ i).toNat)
 case atStart=>exact⟨0,_,by omega,rfl,rfl,by rw [Aj,List.append_nil];simp only [C7],VT _ _⟩
 case round=>
  obtain⟨k,t,hk,rfl,rfl,et,hb⟩:=hrel;replace et:Hid (t=bs (AX 1 1 ++ s8 tb ++ AX 1 n2 ++ Aj (λj=>DX (C j)) k)):=et;have tz:t.size<=33+100 * k:=by
   have:=CI (B:=λj=>DX (C j)) (c:=100) (n:=k) (λj hj=>by have:=hc j (by omega);simp [DX,BP,AH];omega);rw [et.out,AV];simp only [VJ,AH,BP]
   omega
  have hbw:=AA hb4 hb;by_cases hlt:k<n2
  ·
   have HN:Hid (Aj (λj=>DX (C j)) (k+1)=Aj (λj=>DX (C j)) k ++ DX (C k)):=rfl;obtain⟨b,off,rfl,d0,d1,-⟩:=H4.co.later hb k hlt;have hck:=hc k hlt;have x1:(bs (s8 (C k).s)).size<=31:=by rw [AV,BP];omega
   have x2:(bs (AX 1 (C k).t)).size<=1:=by rw [AV,AH];omega
   have x3:¬9223372036854775807<(bs (s8 (C k).s)).size+(bs (AX 1 (C k).t)).size:=by omega
   have x4:¬9223372036854775807<t.size+((bs (s8 (C k).s)).size+(bs (AX 1 (C k).t)).size):=by omega
   have G:=Lt (VT (wr.alloc (γ #[τ (C k).s,ι κ (C k).t] 58)).heap.size (wr.alloc (γ #[τ (C k).s,ι κ (C k).t] 58)));obtain⟨g0,g1⟩:=id G;go_wp2;go_region_held3 (λw'=>w'.cell? ⟨wr.heap.size,0,ν⟩=ς (τ (C k).s)/\w'.cell? ⟨wr.heap.size,1,ν⟩=ς (ι κ (C k).t)) (first | exact G | exact G2 | exact G3 | go_keep) (first | (go_at_call 43;refine(QP (C k).s _ (by omega)).mono ?_;rintro e w5 ⟨rfl,hb5⟩;have G2:=Lt (BO hb5);replace hb5:=bj hb (BO hb5)) | (go_at_call 42;refine(Dq (C k).t _).mono ?_;rintro e w6 ⟨rfl,hb6⟩;have G3:=And.intro (AB hb6 G2.1) (AB hb6 G2.2);replace hb6:=AA hb5 hb6))
   go_wp2;go_roundw
   case rel=>exact⟨k+1,t ++ (bs (s8 (C k).s) ++ bs (AX 1 (C k).t)),by omega,by go_num,rfl,by rw [HN.out,et.out];simp only [C7,DX,List.append_assoc],hb6⟩
   case measure=>simp [VQ];omega
  ·
   obtain rfl:k=n2:=by omega
   have tw0:t.size=(DI D).length:=by rw [HL.out,et.out,AV];simp only [List.append_assoc]
   have tw:Hid (t.size=(DI D).length):=tw0;clear tw0;clear tz;go_wp2
   ·
    go_ret
    rename_i hx
    exact⟨congrArg (λx=>ρ (τ x)) (Gn hok rfl (by rw [AV,←tw.out];omega)).symm,hbw⟩
   ·
    go_ret
    rename_i hx
    exact⟨congrArg (λx=>ρ (τ x)) (E1 (s:=t) hok (by rw [HL.out,et.out];simp only [List.append_assoc]) (by omega)).symm,hbw⟩
theorem SG(tb:ByteArray)(n2:Nat)(C:Nat->Clm)(n3:Nat)(V:Nat->Itm)(col:ByteArray)(n5:Nat)(E:Nat->Itm)(n6:Nat)(W:Nat->Itm)(n7:Nat)(m7:Nat->Nat)(O:Nat->Nat->Itm)
 (a2:Option Addr) (c2:Nat) (a3:Option Addr) (c3:Nat) (a5:Option Addr) (c5:Nat) (a6:Option Addr) (c6:Nat) (a7:Option Addr) (c7:Nat) (D:St) (hD:(⟨2,tb,n2,C,n3,V,col,n5,E,n6,W,n7,m7,O⟩:St)=D)
 (w:ο) (h:SM w ⟨2,tb,n2,C,n3,V,col,n5,E,n6,W,n7,m7,O⟩ ⟨a2,c2,a3,c3,a5,c5,a6,c6,a7,c7⟩) :
 VK μ 17 #[χ #[ι κ 2,τ tb,σ a2 n2 c2,σ a3 n3 c3,τ col,σ a5 n5 c5,σ a6 n6 c6,σ a7 n7 c7]] w λe w'=>e=ρ (τ (CT D))/\υ w.heap.size w w':=by
 have hb0:=AD w (γ #[ι κ 2,τ tb,σ a2 n2 c2,σ a3 n3 c3,τ col,σ a5 n5 c5,σ a6 n6 c6,σ a7 n7 c7] 34);have H0:=h.later hb0;have q0:B8 (w.alloc (γ #[ι κ 2,τ tb,σ a2 n2 c2,σ a3 n3 c3,τ col,σ a5 n5 c5,σ a6 n6 c6,σ a7 n7 c7] 34)) w.heap.size ⟨2,tb,n2,C,n3,V,col,n5,E,n6,W,n7,m7,O⟩ ⟨a2,c2,a3,c3,a5,c5,a6,c6,a7,c7⟩:=B8.new w ⟨2,tb,n2,C,n3,V,col,n5,E,n6,W,n7,m7,O⟩ ⟨a2,c2,a3,c3,a5,c5,a6,c6,a7,c7⟩ 34;obtain⟨htb,hcol,-,-,-,-,-,l2,l3,l5,l6,l7⟩:=id h;dsimp only at htb hcol l2 l3 l5 l6 l7
 replace hD:Hid ((⟨2,tb,n2,C,n3,V,col,n5,E,n6,W,n7,m7,O⟩:St)=D):=hD;have HL:Hid (DI D=AX 1 2 ++ s8 tb ++ (AX 1 n3 ++ Aj (λj=>Bo (V j)) n3)):=by rw [←hD.out];rfl
 have HO:Hid (AK D=true->tb.size<=30/\n3<=20/\∀ j,j<n3->(V j).s.size<=200):=λx=>by
  rw [←hD.out] at x;exact⟨DN x,UW x rfl⟩
 go_enter Tryz.func17,Tryz.ntmps17
 go_wp2_with (go_at_call 18;refine(IP _ tb n2 C n3 V col n5 E n6 W n7 m7 O a2 c2 a3 c3 a5 c5 a6 c6 a7 c7 D hD _ H0).mono ?_;rintro e w1 ⟨rfl,hb1⟩;have H1:=H0.later hb1;have Q1:=q0.later hb1;obtain⟨q0,q1,q2,q3,q4,q5,q6,q7⟩:=id Q1;dsimp only at q0 q1 q2 q3 q4 q5 q6 q7;replace hb1:=AA hb0 hb1;rcases hok:AK D)
 ·
  go_ret
  exact⟨congrArg (λx=>ρ (τ x)) (GB hok).symm,hb1⟩
 obtain⟨htb',hn,hc⟩:=HO.out hok;have z1:(bs (AX 1 2)).size<=1:=by rw [AV,AH];omega
 have z2:(bs (s8 tb)).size<=31:=by rw [AV,BP];omega
 clear h H0 hb0 HO;have y0:¬9223372036854775807<(bs (AX 1 2)).size+(bs (s8 tb)).size:=by omega
 go_region_held3 (λw'=>w'.cell? ⟨w.heap.size,0,ν⟩=ς (ι κ 2)/\w'.cell? ⟨w.heap.size,1,ν⟩=ς (τ tb)) (first | exact⟨q0,q1⟩ | exact⟨r0,r1⟩ | exact⟨u0,u1⟩ | go_keep) (first | (go_at_call 42;refine(Dq 2 _).mono ?_;rintro e w2 ⟨rfl,hb2⟩;have H2:=H1.later (BO hb2);have Q2:=Q1.later (BO hb2);replace hb2:=AA hb1 (BO hb2);obtain⟨r0,r1,r2,r3,r4,r5,r6,r7⟩:=id Q2;dsimp only at r0 r1 r2 r3 r4 r5 r6 r7) | (go_at_call 43;refine(QP tb _ htb).mono ?_;rintro e w3 ⟨rfl,hb3⟩;have H3:=H2.later hb3;have Q3:=Q2.later hb3;replace hb3:=AA hb2 hb3;obtain⟨u0,u1,u2,u3,u4,u5,u6,u7⟩:=id Q3;dsimp only at u0 u1 u2 u3 u4 u5 u6 u7))
 have zn:(bs (AX 1 (n3:Int))).size<=1:=by rw [AV,AH];omega
 go_wp2_with (go_at_call 42;refine(Dq n3 _).mono ?_;rintro e w4 ⟨rfl,hb4⟩;have H4:=H3.later hb4;have Q4:=Q3.later hb4;replace hb4:=AA hb3 hb4;obtain⟨v0,v1,v2,v3,v4,v5,v6,v7⟩:=id Q4;dsimp only at v0 v1 v2 v3 v4 v5 v6 v7)
 go_loopw [3,7,58] (λo _ i wr=>∃ (k:Nat) (t:ByteArray),k<=n3/\i=ι κ k/\o=τ t/\t=bs (AX 1 2 ++ s8 tb ++ AX 1 n3 ++ Aj (λj=>Bo (V j)) k)/\υ w4.heap.size w4 wr) (λ_ _ i _=>n3 - (VQ i).toNat)
 case atStart=>exact⟨0,_,by omega,rfl,rfl,by rw [Aj,List.append_nil];simp only [C7],VT _ _⟩
 case round=>
  obtain⟨k,t,hk,rfl,rfl,et,hb⟩:=hrel;replace et:Hid (t=bs (AX 1 2 ++ s8 tb ++ AX 1 n3 ++ Aj (λj=>Bo (V j)) k)):=et;have tz:t.size<=33+300 * k:=by
   have:=CI (B:=λj=>Bo (V j)) (c:=300) (n:=k) (λj hj=>by have:=hc j (by omega);unfold Bo;rw [VJ,AH];split <;> simp [AH,EI] <;> omega);rw [et.out,AV];simp only [VJ,AH,BP]
   omega
  have hbw:=AA hb4 hb;by_cases hlt:k<n3
  ·
   have HN:Hid (Aj (λj=>Bo (V j)) (k+1)=Aj (λj=>Bo (V j)) k ++ Bo (V k)):=rfl;obtain⟨b,off,rfl,d0,d1,d2,-⟩:=H4.va.later hb k hlt;have hck:=hc k hlt;have hone:True:=trivial;have x1:(bs (AX 1 (V k).o)).size<=1:=by rw [AV,AH];omega
   have x2:(bs (AX 8 (V k).m)).size<=8:=by rw [AV,AH];omega
   have x3:(bs (NY (V k).s)).size<=202:=by rw [AV,EI];omega
   by_cases h1:(V k).o=1
   ·
    have h1':((V k).o == 1)=true:=by simp [h1]
    have HQ:Hid (Bo (V k)=AX 1 (V k).o ++ AX 8 (V k).m):=by simp [Hid,Bo,h1]
    clear h1;go_wp2_with (first | (go_at_call 42;have _h:=hone;refine(Dq (V k).o _).mono ?_;rintro e w5 ⟨rfl,hb5⟩;obtain⟨g0,g1,g2⟩:=IZ hb5;replace hb5:=bj hb hb5;clear hone) | (go_at_call 42;refine(QQ (V k).m _).mono ?_;rintro e w6 ⟨rfl,hb6⟩;replace hb6:=AA hb5 hb6))
    go_roundw
    case rel=>exact⟨k+1,t ++ bs (AX 1 (V k).o) ++ bs (AX 8 (V k).m),by omega,by go_num,rfl,by rw [HN.out,et.out,HQ.out];simp only [C7,List.append_assoc],hb6⟩
    case measure=>simp [VQ];omega
   ·
    have h1':((V k).o == 1)=false:=by simp [h1]
    have HQ:Hid (Bo (V k)=AX 1 (V k).o ++ NY (V k).s):=by simp [Hid,Bo,h1]
    clear h1;go_wp2_with (first | (go_at_call 42;refine(Dq (V k).o _).mono ?_;rintro e w5 ⟨rfl,hb5⟩;obtain⟨g0,g1,g2⟩:=IZ hb5;replace hb5:=bj hb hb5) | (go_at_call 44;refine(SB (V k).s _ (by omega)).mono ?_;rintro e w6 ⟨rfl,hb6⟩;replace hb6:=AA hb5 hb6))
    go_roundw
    case rel=>exact⟨k+1,t ++ bs (AX 1 (V k).o) ++ bs (NY (V k).s),by omega,by go_num,rfl,by rw [HN.out,et.out,HQ.out];simp only [C7,List.append_assoc],hb6⟩
    case measure=>simp [VQ];omega
  ·
   obtain rfl:k=n3:=by omega
   have tw0:t.size=(DI D).length:=by rw [HL.out,et.out,AV];simp only [List.append_assoc]
   have tw:Hid (t.size=(DI D).length):=tw0;clear tw0;clear tz;go_wp2
   ·
    go_ret
    rename_i hx
    exact⟨congrArg (λx=>ρ (τ x)) (Gn hok rfl (by rw [AV,←tw.out];omega)).symm,hbw⟩
   ·
    go_ret
    rename_i hx
    exact⟨congrArg (λx=>ρ (τ x)) (E1 (s:=t) hok (by rw [HL.out,et.out];simp only [List.append_assoc]) (by omega)).symm,hbw⟩
theorem SI(k:Int)(e1:¬k=1)(e2:¬k=2)(e3:¬k=3)(e4:¬k=4)(e5:¬k=5)(tb:ByteArray)(n2:Nat)(C:Nat->Clm)(n3:Nat)(V:Nat->Itm)(col:ByteArray)(n5:Nat)(E:Nat->Itm)(n6:Nat)(W:Nat->Itm)(n7:Nat)(m7:Nat->Nat)(O:Nat->Nat->Itm)
 (a2:Option Addr) (c2:Nat) (a3:Option Addr) (c3:Nat) (a5:Option Addr) (c5:Nat) (a6:Option Addr) (c6:Nat) (a7:Option Addr) (c7:Nat) (D:St) (hD:(⟨k,tb,n2,C,n3,V,col,n5,E,n6,W,n7,m7,O⟩:St)=D)
 (w:ο) (h:SM w ⟨k,tb,n2,C,n3,V,col,n5,E,n6,W,n7,m7,O⟩ ⟨a2,c2,a3,c3,a5,c5,a6,c6,a7,c7⟩) :
 VK μ 17 #[χ #[ι κ k,τ tb,σ a2 n2 c2,σ a3 n3 c3,τ col,σ a5 n5 c5,σ a6 n6 c6,σ a7 n7 c7]] w λe w'=>e=ρ (τ (CT D))/\υ w.heap.size w w':=by
 have hb0:=AD w (γ #[ι κ k,τ tb,σ a2 n2 c2,σ a3 n3 c3,τ col,σ a5 n5 c5,σ a6 n6 c6,σ a7 n7 c7] 34);have H0:=h.later hb0;have q0:B8 (w.alloc (γ #[ι κ k,τ tb,σ a2 n2 c2,σ a3 n3 c3,τ col,σ a5 n5 c5,σ a6 n6 c6,σ a7 n7 c7] 34)) w.heap.size ⟨k,tb,n2,C,n3,V,col,n5,E,n6,W,n7,m7,O⟩ ⟨a2,c2,a3,c3,a5,c5,a6,c6,a7,c7⟩:=B8.new w ⟨k,tb,n2,C,n3,V,col,n5,E,n6,W,n7,m7,O⟩ ⟨a2,c2,a3,c3,a5,c5,a6,c6,a7,c7⟩ 34;obtain⟨htb,hcol,-,-,-,-,-,l2,l3,l5,l6,l7⟩:=id h;dsimp only at htb hcol l2 l3 l5 l6 l7
 replace hD:Hid ((⟨k,tb,n2,C,n3,V,col,n5,E,n6,W,n7,m7,O⟩:St)=D):=hD;have HZ:AK D=false:=by rw [←hD.out];exact Ql ⟨k,tb,n2,C,n3,V,col,n5,E,n6,W,n7,m7,O⟩ e1 e2 e3 e4 e5
 go_enter Tryz.func17,Tryz.ntmps17
 go_wp2_with (go_at_call 18;refine(IP _ tb n2 C n3 V col n5 E n6 W n7 m7 O a2 c2 a3 c3 a5 c5 a6 c6 a7 c7 D hD _ H0).mono ?_;rintro e w1 ⟨rfl,hb1⟩;have H1:=H0.later hb1;have Q1:=q0.later hb1;obtain⟨q0,q1,q2,q3,q4,q5,q6,q7⟩:=id Q1;dsimp only at q0 q1 q2 q3 q4 q5 q6 q7;replace hb1:=AA hb0 hb1;rcases hok:AK D)
 ·
  go_ret
  exact⟨congrArg (λx=>ρ (τ x)) (GB hok).symm,hb1⟩
 · rw [HZ] at hok;cases hok
theorem SF(tb:ByteArray)(n2:Nat)(C:Nat->Clm)(n3:Nat)(V:Nat->Itm)(col:ByteArray)(n5:Nat)(E:Nat->Itm)(n6:Nat)(W:Nat->Itm)(n7:Nat)(m7:Nat->Nat)(O:Nat->Nat->Itm)
 (a2:Option Addr) (c2:Nat) (a3:Option Addr) (c3:Nat) (a5:Option Addr) (c5:Nat) (a6:Option Addr) (c6:Nat) (a7:Option Addr) (c7:Nat) (D:St) (hD:(⟨3,tb,n2,C,n3,V,col,n5,E,n6,W,n7,m7,O⟩:St)=D)
 (w:ο) (h:SM w ⟨3,tb,n2,C,n3,V,col,n5,E,n6,W,n7,m7,O⟩ ⟨a2,c2,a3,c3,a5,c5,a6,c6,a7,c7⟩) :
 VK μ 17 #[χ #[ι κ 3,τ tb,σ a2 n2 c2,σ a3 n3 c3,τ col,σ a5 n5 c5,σ a6 n6 c6,σ a7 n7 c7]] w λe w'=>e=ρ (τ (CT D))/\υ w.heap.size w w':=by
 have hb0:=AD w (γ #[ι κ 3,τ tb,σ a2 n2 c2,σ a3 n3 c3,τ col,σ a5 n5 c5,σ a6 n6 c6,σ a7 n7 c7] 34);have H0:=h.later hb0;have q0:B8 (w.alloc (γ #[ι κ 3,τ tb,σ a2 n2 c2,σ a3 n3 c3,τ col,σ a5 n5 c5,σ a6 n6 c6,σ a7 n7 c7] 34)) w.heap.size ⟨3,tb,n2,C,n3,V,col,n5,E,n6,W,n7,m7,O⟩ ⟨a2,c2,a3,c3,a5,c5,a6,c6,a7,c7⟩:=B8.new w ⟨3,tb,n2,C,n3,V,col,n5,E,n6,W,n7,m7,O⟩ ⟨a2,c2,a3,c3,a5,c5,a6,c6,a7,c7⟩ 34;obtain⟨htb,hcol,-,-,-,-,-,l2,l3,l5,l6,l7⟩:=id h;dsimp only at htb hcol l2 l3 l5 l6 l7
 replace hD:Hid ((⟨3,tb,n2,C,n3,V,col,n5,E,n6,W,n7,m7,O⟩:St)=D):=hD;have HL:Hid (DI D=AX 1 3 ++ s8 tb ++ (s8 col ++ BC E n5 ++ BC W n6)):=by rw [←hD.out];rfl
 have HO:Hid (AK D=true->tb.size<=30/\col.size<=30/\(n5<=100/\∀ j,j<n5->(E j).s.size<=200)/\(n6<=100/\∀ j,j<n6->(W j).s.size<=200)):=λx=>by
  rw [←hD.out] at x;exact⟨DN x,UV x rfl⟩
 go_enter Tryz.func17,Tryz.ntmps17
 go_wp2_with (go_at_call 18;refine(IP _ tb n2 C n3 V col n5 E n6 W n7 m7 O a2 c2 a3 c3 a5 c5 a6 c6 a7 c7 D hD _ H0).mono ?_;rintro e w1 ⟨rfl,hb1⟩;have H1:=H0.later hb1;have Q1:=q0.later hb1;obtain⟨q0,q1,q2,q3,q4,q5,q6,q7⟩:=id Q1;dsimp only at q0 q1 q2 q3 q4 q5 q6 q7;replace hb1:=AA hb0 hb1;rcases hok:AK D)
 ·
  go_ret
  exact⟨congrArg (λx=>ρ (τ x)) (GB hok).symm,hb1⟩
 obtain⟨htb',hc',⟨hn5,ht5⟩,⟨hn6,ht6⟩⟩:=HO.out hok;have z1:(bs (AX 1 3)).size<=1:=by rw [AV,AH];omega
 have z2:(bs (s8 tb)).size<=31:=by rw [AV,BP];omega
 clear h H0 hb0 HO;have z3:(bs (s8 col)).size<=31:=by rw [AV,BP];omega
 have z4:(bs (BC E n5)).size<=30002:=by rw [AV];exact Dz hn5 ht5
 have z5:(bs (BC W n6)).size<=30002:=by rw [AV];exact Dz hn6 ht6
 have y0:¬9223372036854775807<(bs (AX 1 3)).size+(bs (s8 tb)).size:=by omega
 have y1:¬9223372036854775807<(bs (s8 col)).size+(bs (BC E n5)).size:=by omega
 have y2:¬9223372036854775807<(bs (s8 col)).size+(bs (BC E n5)).size+(bs (BC W n6)).size:=by omega
 have y3:¬9223372036854775807<(bs (AX 1 3)).size+(bs (s8 tb)).size+((bs (s8 col)).size+(bs (BC E n5)).size+(bs (BC W n6)).size):=by omega
 go_region_held3 (λw'=>w'.cell? ⟨w.heap.size,0,ν⟩=ς (ι κ 3)/\w'.cell? ⟨w.heap.size,1,ν⟩=ς (τ tb)) (first | exact⟨q0,q1⟩ | exact⟨r0,r1⟩ | exact⟨u0,u1⟩ | go_keep) (first | (go_at_call 42;refine(Dq 3 _).mono ?_;rintro e w2 ⟨rfl,hb2⟩;have H2:=H1.later (BO hb2);have Q2:=Q1.later (BO hb2);replace hb2:=AA hb1 (BO hb2);obtain⟨r0,r1,r2,r3,r4,r5,r6,r7⟩:=id Q2;dsimp only at r0 r1 r2 r3 r4 r5 r6 r7) | (go_at_call 43;refine(QP tb _ htb).mono ?_;rintro e w3 ⟨rfl,hb3⟩;have H3:=H2.later hb3;have Q3:=Q2.later hb3;replace hb3:=AA hb2 hb3;obtain⟨u0,u1,u2,u3,u4,u5,u6,u7⟩:=id Q3;dsimp only at u0 u1 u2 u3 u4 u5 u6 u7))
 go_wp2;have hone:True:=trivial;go_region_held3 (λw'=>w'.cell? ⟨w.heap.size,4,ν⟩=ς (τ col)/\w'.cell? ⟨w.heap.size,5,ν⟩=ς (σ a5 n5 c5)/\w'.cell? ⟨w.heap.size,6,ν⟩=ς (σ a6 n6 c6)) (first | exact⟨u4,u5,u6⟩ | exact⟨v4,v5,v6⟩ | exact⟨x4,x5,x6⟩ | exact⟨y4,y5,y6⟩ | go_keep) (first | (go_at_call 43;refine(QP col _ hcol).mono ?_;rintro e w5 ⟨rfl,hb5⟩;have H5:=H3.later (BO hb5);have Q5:=Q3.later (BO hb5);replace hb5:=AA hb3 (BO hb5);obtain⟨v0,v1,v2,v3,v4,v5,v6,v7⟩:=id Q5;dsimp only at v0 v1 v2 v3 v4 v5 v6 v7) | (go_at_call 45;have _h:=hone;refine(Ji a5 n5 c5 E _ H5.ex hn5 ht5).mono ?_;rintro e w6 ⟨rfl,hb6⟩;clear hone;have H6:=H5.later hb6;have Q6:=Q5.later hb6;replace hb6:=AA hb5 hb6;obtain⟨x0,x1,x2,x3,x4,x5,x6,x7⟩:=id Q6;dsimp only at x0 x1 x2 x3 x4 x5 x6 x7) | (go_at_call 45;refine(Ji a6 n6 c6 W _ H6.wh hn6 ht6).mono ?_;rintro e w4 ⟨rfl,hb4⟩;have H4:=H6.later hb4;have Q4:=Q6.later hb4;replace hb4:=AA hb6 hb4;obtain⟨y0,y1,y2,y3,y4,y5,y6,y7⟩:=id Q4;dsimp only at y0 y1 y2 y3 y4 y5 y6 y7))
 go_wp2
 ·
  go_ret
  rename_i hx
  simp only [AV] at hx
  exact⟨congrArg (λx=>ρ (τ x)) (Gn hok rfl (by rw [HL.out];simp only [AV,VJ];omega)).symm,hb4⟩
 ·
  go_ret
  rename_i hx
  simp only [AV] at hx
  exact⟨congrArg (λx=>ρ (τ x)) (E1 (s:=bs (AX 1 3) ++ bs (s8 tb) ++ (bs (s8 col) ++ bs (BC E n5) ++ bs (BC W n6))) hok (by rw [HL.out];simp only [C7]) (by simp only [C7,AV,VJ];omega)).symm,hb4⟩
theorem SE(tb:ByteArray)(n2:Nat)(C:Nat->Clm)(n3:Nat)(V:Nat->Itm)(col:ByteArray)(n5:Nat)(E:Nat->Itm)(n6:Nat)(W:Nat->Itm)(n7:Nat)(m7:Nat->Nat)(O:Nat->Nat->Itm)
 (a2:Option Addr) (c2:Nat) (a3:Option Addr) (c3:Nat) (a5:Option Addr) (c5:Nat) (a6:Option Addr) (c6:Nat) (a7:Option Addr) (c7:Nat) (D:St) (hD:(⟨4,tb,n2,C,n3,V,col,n5,E,n6,W,n7,m7,O⟩:St)=D)
 (w:ο) (h:SM w ⟨4,tb,n2,C,n3,V,col,n5,E,n6,W,n7,m7,O⟩ ⟨a2,c2,a3,c3,a5,c5,a6,c6,a7,c7⟩) :
 VK μ 17 #[χ #[ι κ 4,τ tb,σ a2 n2 c2,σ a3 n3 c3,τ col,σ a5 n5 c5,σ a6 n6 c6,σ a7 n7 c7]] w λe w'=>e=ρ (τ (CT D))/\υ w.heap.size w w':=by
 have hb0:=AD w (γ #[ι κ 4,τ tb,σ a2 n2 c2,σ a3 n3 c3,τ col,σ a5 n5 c5,σ a6 n6 c6,σ a7 n7 c7] 34);have H0:=h.later hb0;have q0:B8 (w.alloc (γ #[ι κ 4,τ tb,σ a2 n2 c2,σ a3 n3 c3,τ col,σ a5 n5 c5,σ a6 n6 c6,σ a7 n7 c7] 34)) w.heap.size ⟨4,tb,n2,C,n3,V,col,n5,E,n6,W,n7,m7,O⟩ ⟨a2,c2,a3,c3,a5,c5,a6,c6,a7,c7⟩:=B8.new w ⟨4,tb,n2,C,n3,V,col,n5,E,n6,W,n7,m7,O⟩ ⟨a2,c2,a3,c3,a5,c5,a6,c6,a7,c7⟩ 34;obtain⟨htb,hcol,-,-,-,-,-,l2,l3,l5,l6,l7⟩:=id h;dsimp only at htb hcol l2 l3 l5 l6 l7
 replace hD:Hid ((⟨4,tb,n2,C,n3,V,col,n5,E,n6,W,n7,m7,O⟩:St)=D):=hD;have HL:Hid (DI D=AX 1 4 ++ s8 tb ++ (BC W n6)):=by rw [←hD.out];rfl
 have HO:Hid (AK D=true->tb.size<=30/\n6<=100/\∀ j,j<n6->(W j).s.size<=200):=λx=>by
  rw [←hD.out] at x;exact⟨DN x,Us x rfl⟩
 go_enter Tryz.func17,Tryz.ntmps17
 go_wp2_with (go_at_call 18;refine(IP _ tb n2 C n3 V col n5 E n6 W n7 m7 O a2 c2 a3 c3 a5 c5 a6 c6 a7 c7 D hD _ H0).mono ?_;rintro e w1 ⟨rfl,hb1⟩;have H1:=H0.later hb1;have Q1:=q0.later hb1;obtain⟨q0,q1,q2,q3,q4,q5,q6,q7⟩:=id Q1;dsimp only at q0 q1 q2 q3 q4 q5 q6 q7;replace hb1:=AA hb0 hb1;rcases hok:AK D)
 ·
  go_ret
  exact⟨congrArg (λx=>ρ (τ x)) (GB hok).symm,hb1⟩
 obtain⟨htb',hn6,ht6⟩:=HO.out hok;have z1:(bs (AX 1 4)).size<=1:=by rw [AV,AH];omega
 have z2:(bs (s8 tb)).size<=31:=by rw [AV,BP];omega
 clear h H0 hb0 HO;have z3:(bs (BC W n6)).size<=30002:=by rw [AV];exact Dz hn6 ht6
 have y0:¬9223372036854775807<(bs (AX 1 4)).size+(bs (s8 tb)).size:=by omega
 go_region_held3 (λw'=>w'.cell? ⟨w.heap.size,0,ν⟩=ς (ι κ 4)/\w'.cell? ⟨w.heap.size,1,ν⟩=ς (τ tb)) (first | exact⟨q0,q1⟩ | exact⟨r0,r1⟩ | exact⟨u0,u1⟩ | go_keep) (first | (go_at_call 42;refine(Dq 4 _).mono ?_;rintro e w2 ⟨rfl,hb2⟩;have H2:=H1.later (BO hb2);have Q2:=Q1.later (BO hb2);replace hb2:=AA hb1 (BO hb2);obtain⟨r0,r1,r2,r3,r4,r5,r6,r7⟩:=id Q2;dsimp only at r0 r1 r2 r3 r4 r5 r6 r7) | (go_at_call 43;refine(QP tb _ htb).mono ?_;rintro e w3 ⟨rfl,hb3⟩;have H3:=H2.later hb3;have Q3:=Q2.later hb3;replace hb3:=AA hb2 hb3;obtain⟨u0,u1,u2,u3,u4,u5,u6,u7⟩:=id Q3;dsimp only at u0 u1 u2 u3 u4 u5 u6 u7))
 go_wp2_with (go_at_call 45;refine(Ji a6 n6 c6 W _ H3.wh hn6 ht6).mono ?_;rintro e w4 ⟨rfl,hb4⟩;replace hb4:=AA hb3 hb4)
 go_ret
 exact⟨congrArg (λx=>ρ (τ x)) (E1 (s:=bs (AX 1 4) ++ bs (s8 tb) ++ bs (BC W n6)) hok (by rw [HL.out];simp only [C7]) (by rw [ByteArray.size_append,ByteArray.size_append];omega)).symm,hb4⟩
theorem SD(tb:ByteArray)(n2:Nat)(C:Nat->Clm)(n3:Nat)(V:Nat->Itm)(col:ByteArray)(n5:Nat)(E:Nat->Itm)(n6:Nat)(W:Nat->Itm)(n7:Nat)(m7:Nat->Nat)(O:Nat->Nat->Itm)
 (a2:Option Addr) (c2:Nat) (a3:Option Addr) (c3:Nat) (a5:Option Addr) (c5:Nat) (a6:Option Addr) (c6:Nat) (a7:Option Addr) (c7:Nat) (D:St) (hD:(⟨5,tb,n2,C,n3,V,col,n5,E,n6,W,n7,m7,O⟩:St)=D)
 (w:ο) (h:SM w ⟨5,tb,n2,C,n3,V,col,n5,E,n6,W,n7,m7,O⟩ ⟨a2,c2,a3,c3,a5,c5,a6,c6,a7,c7⟩) :
 VK μ 17 #[χ #[ι κ 5,τ tb,σ a2 n2 c2,σ a3 n3 c3,τ col,σ a5 n5 c5,σ a6 n6 c6,σ a7 n7 c7]] w λe w'=>e=ρ (τ (CT D))/\υ w.heap.size w w':=by
 have hb0:=AD w (γ #[ι κ 5,τ tb,σ a2 n2 c2,σ a3 n3 c3,τ col,σ a5 n5 c5,σ a6 n6 c6,σ a7 n7 c7] 34);have H0:=h.later hb0;have q0:B8 (w.alloc (γ #[ι κ 5,τ tb,σ a2 n2 c2,σ a3 n3 c3,τ col,σ a5 n5 c5,σ a6 n6 c6,σ a7 n7 c7] 34)) w.heap.size ⟨5,tb,n2,C,n3,V,col,n5,E,n6,W,n7,m7,O⟩ ⟨a2,c2,a3,c3,a5,c5,a6,c6,a7,c7⟩:=B8.new w ⟨5,tb,n2,C,n3,V,col,n5,E,n6,W,n7,m7,O⟩ ⟨a2,c2,a3,c3,a5,c5,a6,c6,a7,c7⟩ 34;obtain⟨htb,hcol,-,-,-,-,-,l2,l3,l5,l6,l7⟩:=id h;dsimp only at htb hcol l2 l3 l5 l6 l7
 replace hD:Hid ((⟨5,tb,n2,C,n3,V,col,n5,E,n6,W,n7,m7,O⟩:St)=D):=hD;have HL:Hid (DI D=AX 1 5 ++ s8 tb ++ ((AX 1 n7 ++ Aj (λj=>BC (O j) (m7 j)) n7) ++ BC W n6)):=by rw [←hD.out];rfl
 have HO:Hid (AK D=true->tb.size<=30/\n7<=20/\(∀ j,j<n7->m7 j<=100/\∀ q,q<m7 j->(O j q).s.size<=200)/\(n6<=100/\∀ j,j<n6->(W j).s.size<=200)):=λx=>by
  rw [←hD.out] at x;exact⟨DN x,Ur x rfl⟩
 go_enter Tryz.func17,Tryz.ntmps17
 go_wp2_with (go_at_call 18;refine(IP _ tb n2 C n3 V col n5 E n6 W n7 m7 O a2 c2 a3 c3 a5 c5 a6 c6 a7 c7 D hD _ H0).mono ?_;rintro e w1 ⟨rfl,hb1⟩;have H1:=H0.later hb1;have Q1:=q0.later hb1;obtain⟨q0,q1,q2,q3,q4,q5,q6,q7⟩:=id Q1;dsimp only at q0 q1 q2 q3 q4 q5 q6 q7;replace hb1:=AA hb0 hb1;rcases hok:AK D)
 ·
  go_ret
  exact⟨congrArg (λx=>ρ (τ x)) (GB hok).symm,hb1⟩
 obtain⟨htb',hn,hc,⟨hn6,ht6⟩⟩:=HO.out hok;have z1:(bs (AX 1 5)).size<=1:=by rw [AV,AH];omega
 have z2:(bs (s8 tb)).size<=31:=by rw [AV,BP];omega
 clear h H0 hb0 HO;have z4:(bs (BC W n6)).size<=30002:=by rw [AV];exact Dz hn6 ht6
 have y0:¬9223372036854775807<(bs (AX 1 5)).size+(bs (s8 tb)).size:=by omega
 go_region_held3 (λw'=>w'.cell? ⟨w.heap.size,0,ν⟩=ς (ι κ 5)/\w'.cell? ⟨w.heap.size,1,ν⟩=ς (τ tb)) (first | exact⟨q0,q1⟩ | exact⟨r0,r1⟩ | exact⟨u0,u1⟩ | go_keep) (first | (go_at_call 42;refine(Dq 5 _).mono ?_;rintro e w2 ⟨rfl,hb2⟩;have H2:=H1.later (BO hb2);have Q2:=Q1.later (BO hb2);replace hb2:=AA hb1 (BO hb2);obtain⟨r0,r1,r2,r3,r4,r5,r6,r7⟩:=id Q2;dsimp only at r0 r1 r2 r3 r4 r5 r6 r7) | (go_at_call 43;refine(QP tb _ htb).mono ?_;rintro e w3 ⟨rfl,hb3⟩;have H3:=H2.later hb3;have Q3:=Q2.later hb3;replace hb3:=AA hb2 hb3;obtain⟨u0,u1,u2,u3,u4,u5,u6,u7⟩:=id Q3;dsimp only at u0 u1 u2 u3 u4 u5 u6 u7))
 have zn:(bs (AX 1 (n7:Int))).size<=1:=by rw [AV,AH];omega
 go_wp2_with (go_at_call 42;refine(Dq n7 _).mono ?_;rintro e w4 ⟨rfl,hb4⟩;have H4:=H3.later hb4;have Q4:=Q3.later hb4;replace hb4:=AA hb3 hb4;obtain⟨v0,v1,v2,v3,v4,v5,v6,v7⟩:=id Q4;dsimp only at v0 v1 v2 v3 v4 v5 v6 v7)
 go_loopw [3,9,114] (λo _ i wr=>∃ (k:Nat) (t:ByteArray),k<=n7/\i=ι κ k/\o=τ t/\t=bs (AX 1 5 ++ s8 tb ++ AX 1 n7 ++ Aj (λj=>BC (O j) (m7 j)) k)/\υ w4.heap.size w4 wr) (λ_ _ i _=>n7 - (VQ i).toNat)
 case atStart=>exact⟨0,_,by omega,rfl,rfl,by rw [Aj,List.append_nil];simp only [C7],VT _ _⟩
 case round=>
  obtain⟨k,t,hk,rfl,rfl,et,hb⟩:=hrel;replace et:Hid (t=bs (AX 1 5 ++ s8 tb ++ AX 1 n7 ++ Aj (λj=>BC (O j) (m7 j)) k)):=et;have tz:t.size<=33+30002 * k:=by
   have:=CI (B:=λj=>BC (O j) (m7 j)) (c:=30002) (n:=k) (λj hj=>Dz (hc j (by omega)).1 (hc j (by omega)).2);rw [et.out,AV];simp only [VJ,AH,BP]
   omega
  have hbw:=AA hb4 hb;by_cases hlt:k<n7
  ·
   have HN:Hid (Aj (λj=>BC (O j) (m7 j)) (k+1)=Aj (λj=>BC (O j) (m7 j)) k ++ BC (O k) (m7 k)):=rfl;obtain⟨b,off,i,c',rfl,d0,di,dm⟩:=H4.ou.later hb k hlt;obtain⟨hm',ht'⟩:=hc k hlt;have x1:(bs (BC (O k) (m7 k))).size<=30002:=by rw [AV];exact Dz hm' ht'
   go_wp2_with (go_at_call 45;refine(Ji i _ c' (O k) _ di hm' ht').mono ?_;rintro e w5 ⟨rfl,hb5⟩;replace hb5:=AA hb hb5)
   go_roundw
   case rel=>exact⟨k+1,t ++ bs (BC (O k) (m7 k)),by omega,by go_num,rfl,by rw [HN.out,et.out];simp only [C7,List.append_assoc],hb5⟩
   case measure=>simp [VQ];omega
  ·
   obtain rfl:k=n7:=by omega
   have tw0:t.size+(bs (BC W n6)).size=(DI D).length:=by rw [HL.out,et.out];simp only [AV,VJ];omega
   have tw:Hid (t.size+(bs (BC W n6)).size=(DI D).length):=tw0;clear tw0;have f6:=AB hb v6;have z6:t.size+(bs (BC W n6)).size<=100000000:=by omega
   clear tz;go_wp2_with (go_at_call 45;refine(Ji a6 n6 c6 W _ (H4.wh.later hb) hn6 ht6).mono ?_;rintro e w7 ⟨rfl,hb7⟩;replace hb7:=AA hbw hb7)
   ·
    go_ret
    rename_i hx
    exact⟨congrArg (λx=>ρ (τ x)) (Gn hok rfl (by rw [AV,←tw.out];omega)).symm,hb7⟩
   ·
    go_ret
    rename_i hx
    exact⟨congrArg (λx=>ρ (τ x)) (E1 (s:=t ++ bs (BC W n6)) hok (by rw [HL.out,et.out];simp only [C7,List.append_assoc]) (by rw [ByteArray.size_append];omega)).symm,hb7⟩
theorem Ks(d:St)(p:Sa)(w:ο)(h:SM w d p):VK μ 17 #[χ (GC d p)] w λe w'=>e=ρ (τ (CT d))/\υ w.heap.size w w':=by
 obtain⟨k,tb,n2,C,n3,V,col,n5,E,n6,W,n7,m7,O⟩:=d;obtain⟨a2,c2,a3,c3,a5,c5,a6,c6,a7,c7⟩:=p;by_cases e1:k=1
 · subst e1;exact SH tb n2 C n3 V col n5 E n6 W n7 m7 O a2 c2 a3 c3 a5 c5 a6 c6 a7 c7 _ rfl w h
 by_cases e2:k=2
 · subst e2;exact SG tb n2 C n3 V col n5 E n6 W n7 m7 O a2 c2 a3 c3 a5 c5 a6 c6 a7 c7 _ rfl w h
 by_cases e3:k=3
 · subst e3;exact SF tb n2 C n3 V col n5 E n6 W n7 m7 O a2 c2 a3 c3 a5 c5 a6 c6 a7 c7 _ rfl w h
 by_cases e4:k=4
 · subst e4;exact SE tb n2 C n3 V col n5 E n6 W n7 m7 O a2 c2 a3 c3 a5 c5 a6 c6 a7 c7 _ rfl w h
 by_cases e5:k=5
 · subst e5;exact SD tb n2 C n3 V col n5 E n6 W n7 m7 O a2 c2 a3 c3 a5 c5 a6 c6 a7 c7 _ rfl w h
 exact SI k e1 e2 e3 e4 e5 tb n2 C n3 V col n5 E n6 W n7 m7 O a2 c2 a3 c3 a5 c5 a6 c6 a7 c7 _ rfl w h
end Go.Proofs.YtoeencbghldmdaaGreatDoor
namespace Go.Proofs.YtoeencbghldmdaaGreatDoor
open Go.RowKit
set_option maxRecDepth 20000
set_option maxHeartbeats 4000000
structure Cu(w:ο)(g B:Nat)(ca:Option Addr)(cn cc:Nat)(z s:Nat):Prop where
 c0:w.cell? ⟨g,0,ν⟩=ς (σ ca cn cc)
 c1:w.cell? ⟨g,1,ν⟩=ς (ι κ z)
 c2:w.cell? ⟨g,2,ν⟩=ς (ι κ s)
 f1:w.frozen? ⟨g,1,ν⟩=false
 f2:w.frozen? ⟨g,2,ν⟩=false
 hs:s<2147483648
 hn:cn<=1048576
 lt:g<B
 code:∀ j,j<cn->∃ b off v,ca=ς ⟨b,off,ν⟩/\b≠g/\b<B/\w.cell? ⟨b,off+j,ν⟩=ς (ι .u8 v)/\0<=v/\v<=255
theorem Ai(w:ο)(g i:Nat)(v:VN):w.grownBy (w.setCell ⟨g,i,ν⟩ v) (ς g):=
 ⟨rfl,rfl,rfl,by simp [World.setCell],λk _ hk=>Below.heap_setCell _ _ _ _ (λe=>hk (by rw [e]))⟩
theorem Cu.set1{w:ο}{g B:Nat}{ca:Option Addr}{cn cc z s:Nat}(h:Cu w g B ca cn cc z s)(z':Nat):Cu (w.setCell ⟨g,1,ν⟩ (ι κ z')) g B ca cn cc z' s:=by
 have n10:(⟨g,1,ν⟩:Addr)≠⟨g,0,ν⟩:=λh=>by cases h
 have n12:(⟨g,1,ν⟩:Addr)≠⟨g,2,ν⟩:=λh=>by cases h
 refine⟨(World.cell?_setCell_other (h:=n10) ..).trans h.c0,World.cell?_setCell_same (h:=h.c1) ..,(World.cell?_setCell_other (h:=n12) ..).trans h.c2,by simpa using h.f1,by simpa using h.f2,h.hs,h.hn,h.lt,λj hj=>?_⟩;obtain⟨b,off,v,e,hb,hB,hc,h0,h1⟩:=h.code j hj;exact⟨b,off,v,e,hb,hB,(World.cell?_setCell_far _ _ _ _ (λe=>hb e.symm)).trans hc,h0,h1⟩
theorem Cu.set2{w:ο}{g B:Nat}{ca:Option Addr}{cn cc z s:Nat}(h:Cu w g B ca cn cc z s)(s':Nat)(hs':s'<2147483648):Cu (w.setCell ⟨g,2,ν⟩ (ι κ s')) g B ca cn cc z s':=by
 have n20:(⟨g,2,ν⟩:Addr)≠⟨g,0,ν⟩:=λh=>by cases h
 have n21:(⟨g,2,ν⟩:Addr)≠⟨g,1,ν⟩:=λh=>by cases h
 refine⟨(World.cell?_setCell_other (h:=n20) ..).trans h.c0,(World.cell?_setCell_other (h:=n21) ..).trans h.c1,World.cell?_setCell_same (h:=h.c2) ..,by simpa using h.f1,by simpa using h.f2,hs',h.hn,h.lt,λj hj=>?_⟩;obtain⟨b,off,v,e,hb,hB,hc,h0,h1⟩:=h.code j hj;exact⟨b,off,v,e,hb,hB,(World.cell?_setCell_far _ _ _ _ (λe=>hb e.symm)).trans hc,h0,h1⟩
theorem Cu.drawn{w:ο}{g B:Nat}{ca:Option Addr}{cn cc z s:Nat}(h:Cu w g B ca cn cc z s)(q:Nat):Cu (w.drewN q) g B ca cn cc z s:=⟨h.c0,h.c1,h.c2,h.f1,h.f2,h.hs,h.hn,h.lt,h.code⟩
theorem Cu.gr{w w':ο}{g B:Nat}{ca:Option Addr}{cn cc z s:Nat}{r:Option Nat}(h:Cu w g B ca cn cc z s)(hg:w.grownBy w' r)(hr:∀ k,r=ς k->B<=k)(hB:B<=w.heap.size):Cu w' g B ca cn cc z s:=by
 have bl:∀ k,k<B->w'.heap[k]?=w.heap[k]?:=λk hk=>hg.block k (by omega) (λe=>by have:=hr k e.symm;omega);have cc':∀ i,w'.cell? ⟨g,i,ν⟩=w.cell? ⟨g,i,ν⟩:=λi=>World.cell?_of_block (bl g h.lt);have ff:∀ i,w'.frozen? ⟨g,i,ν⟩=w.frozen? ⟨g,i,ν⟩:=λi=>World.frozen?_of_block (bl g h.lt);refine⟨(cc' 0).trans h.c0,(cc' 1).trans h.c1,(cc' 2).trans h.c2,(ff 1).trans h.f1,(ff 2).trans h.f2,h.hs,h.hn,h.lt,λj hj=>?_⟩;obtain⟨b,off,v,e,hb,hB',hc,h0,h1⟩:=h.code j hj;exact⟨b,off,v,e,hb,hB',(World.cell?_of_block (bl b hB')).trans hc,h0,h1⟩
theorem AU(w:ο)(o:Obj)(r:Option Nat):w.grownBy (w.alloc o) r:=⟨rfl,rfl,rfl,by simp,λk hk _=>Below.heap_alloc _ _ _ hk⟩
theorem Oz{w:ο}{k:Nat}{o:Obj}(h:w.heap[k]?=ς o):k<w.heap.size:=by
 rcases Nat.lt_or_ge k w.heap.size with hlt | hge
 · exact hlt
 · rw [Array.getElem?_eq_none hge] at h;cases h
theorem AS{w w':ο}{base e size n g:Nat}{v:VN}{xs:List VN}(h:w.ownsRow base e size v n xs)(hg:w.grownBy w' (ς g))(hgb:g<base):w'.ownsRow base e size v n xs:=by
 obtain⟨hl,hh⟩:=h;refine⟨hl,?_⟩;rcases hh with hh | ⟨gg,cap,cur,e1,e2,e3,e4⟩
 · exact VV hh
 · exact Vb ⟨gg,cap,cur,e1,e2,(hg.block gg (Oz e3) (λe=>by have:=VF e;omega)).trans e3,e4⟩
theorem Ch{a b c:ο}{g:Nat}{r:Option Nat}(h:a.grownBy b (ς g))(k:b.grownBy c r)(hr:∀ j,r=ς j->a.heap.size<=j):a.grownBy c (ς g):=
 ⟨k.os.trans h.os,k.tape.trans h.tape,k.output.trans h.output,VX h.size k.size,λi hi hn=>(k.block i (Nat.lt_of_lt_of_le hi h.size) (λe=>by have:=hr i e.symm;omega)).trans (h.block i hi hn)⟩
theorem L3{w w':ο}{r:Option Nat}(h:w.grownBy w' r)(q:Nat):w.grownBy (w'.drewN q) r:=⟨h.os,h.tape,h.output,h.size,h.block⟩
theorem AQ{a b c:ο}{r:Option Nat}(h:a.grownBy b r)(k:b.grownBy c r):a.grownBy c r:=
 ⟨k.os.trans h.os,k.tape.trans h.tape,k.output.trans h.output,VX h.size k.size,λi hi hn=>(k.block i (Nat.lt_of_lt_of_le hi h.size) hn).trans (h.block i hi hn)⟩
theorem Ox(g B:Nat)(ca:Option Addr)(cn cc z s:Nat)(w:ο)(h:Cu w g B ca cn cc z s)(hz:z<=1099511627776) :
 VK μ 85 #[ψ (ς ⟨g,0,ν⟩)] w λe w'=>∃ (r:Int) (s':Nat),e=ρ (ι κ r)/\0<=r/\r<=255/\Cu w' g B ca cn cc (z+1) s'/\w.grownBy w' (ς g):=by
 have hn:=h.hn;have hs:=h.hs;obtain⟨c0,c1,c2,f1,f2,-,-,-,-⟩:=id h;have h1:=h.set1 (z+1);have ez:((z+1:Nat):Int)=(z:Int)+1:=by omega
 rw [ez] at h1;obtain⟨a0,a1,a2,k1,k2,-,-,-,hcode⟩:=id h1;rw [ez] at a1;have HC:Hid (Cu (w.setCell ⟨g,1,ν⟩ (ι κ ((z:Int)+1))) g B ca cn cc (z+1) s):=h1;have HG:Hid (w.grownBy (w.setCell ⟨g,1,ν⟩ (ι κ ((z:Int)+1))) (ς g)):=Ai _ _ _ _;clear h h1;have e1:IntKind.i64.wrap (40 * (cn:Int))=40 * cn:=by rw [IntKind.wrap_i64];omega
 have e2:IntKind.i64.wrap (200+40 * (cn:Int))=200+40 * cn:=by rw [IntKind.wrap_i64];omega
 by_cases hA:200+40 * (cn:Int)<(z:Int)+1
 ·
  have dA:decide (200+40 * (cn:Int)<(z:Int)+1)=true:=decide_eq_true hA;go_enter Tryz.func85,Tryz.ntmps85
  go_wp2;go_quiet (fail)
  go_wp2;go_ret
  exact⟨0,s,rfl,by omega,by omega,HC.out.drawn _,L3 HG.out _⟩
 ·
  have dA:decide (200+40 * (cn:Int)<(z:Int)+1)=false:=decide_eq_false hA;by_cases hB:(cn:Int)<(z:Int)+1
  ·
   have dB:decide ((cn:Int)<(z:Int)+1)=true:=decide_eq_true hB;go_enter Tryz.func85,Tryz.ntmps85
   go_wp2;go_quiet (fail)
   go_wp2;go_quiet (fail)
   go_wp2;go_ret
   have es:(((s * 1103515245+12345) % 2147483648:Nat):Int)=((s:Int) * 1103515245+12345) % 2147483648:=by omega
   refine⟨_,(s * 1103515245+12345) % 2147483648,rfl,by omega,by omega,?_,AQ (L3 HG.out _) (Ai _ _ _ _)⟩;rw [←es];exact(HC.out.drawn _).set2 _ (by omega)
  ·
   have dB:decide ((cn:Int)<(z:Int)+1)=false:=decide_eq_false hB;obtain⟨b,off,v,rfl,hbg,-,hcv,hv0,hv1⟩:=hcode z (by omega);obtain⟨vn,rfl⟩:∃ vn:Nat,v=vn:=⟨v.toNat,by omega⟩;obtain⟨s2,hs2⟩:∃ s2,(s * 31+vn+7) % 2147483648=s2:=⟨_,rfl⟩;have e8:((s:Int) * 31+vn+7).tmod 2147483648=(s2:Nat):=by rw [Int.tmod_eq_emod_of_nonneg (by omega)];omega
   have hs2l:s2<2147483648:=by omega
   clear hs2;have n20:(⟨g,2,ν⟩:Addr)≠⟨g,0,ν⟩:=λh=>by cases h
   have n21:(⟨g,2,ν⟩:Addr)≠⟨g,1,ν⟩:=λh=>by cases h
   have e3:IntKind.i64.wrap ((z:Int)+1 - 1)=z:=by rw [IntKind.wrap_i64];omega
   have e3':IntKind.i64.wrap (z:Int)=z:=by rw [IntKind.wrap_i64];omega
   have e4:IntKind.i64.wrap ((s:Int) * 31)=s * 31:=by rw [IntKind.wrap_i64];omega
   have e5:IntKind.i64.wrap ((s:Int) * 31+vn)=s * 31+vn:=by rw [IntKind.wrap_i64];omega
   have e6:IntKind.i64.wrap ((s:Int) * 31+vn+7)=s * 31+vn+7:=by rw [IntKind.wrap_i64];omega
   have e7:IntKind.i64.wrap (vn:Int)=vn:=by rw [IntKind.wrap_i64];omega
   have i0:(0:Int)<=(z:Int):=by omega
   have i1:(z:Int)<(cn:Int):=by omega
   go_enter Tryz.func85,Tryz.ntmps85
   go_wp2;go_quiet (fail)
   go_wp2;go_quiet (fail)
   go_wp2;refine VH (S:=λw'=>w'.cell? ⟨g,0,ν⟩=ς (σ (ς ⟨b,off,ν⟩) cn cc)/\w'.cell? ⟨g,1,ν⟩=ς (ι κ ((z:Int)+1))/\w'.cell? ⟨b,off+z,ν⟩=ς (ι .u8 vn)) (by kernel_rfl) ⟨a0,a1,hcv⟩ (λ_=>?_);refine tk 0 (v:=ψ (ς ⟨g,0,ν⟩)) ⟨a0,a1,hcv⟩ ?_;simp only [zS]
   refine tk 1 (v:=ψ (ς ⟨g,0,ν⟩)) ⟨a0,a1,hcv⟩ ?_;simp only [zS]
   refine tk 2 (v:=ψ (ς ⟨g,0,ν⟩)) ⟨a0,a1,hcv⟩ ?_;simp only [zS]
   refine tk 3 (v:=ψ (ς ⟨g,2,ν⟩)) ⟨a0,a1,hcv⟩ ?_;simp only [zS]
   refine tk 6 (v:=ψ (ς ⟨g,0,ν⟩)) ⟨a0,a1,hcv⟩ ?_;simp only [zS]
   refine tk 7 (v:=ψ (ς ⟨g,0,ν⟩)) ⟨a0,a1,hcv⟩ ?_;simp only [zS]
   refine tk 8 (v:=ψ (ς ⟨g,0,ν⟩)) ⟨a0,a1,hcv⟩ ?_;simp only [zS]
   refine wpAnyH_take (i:=9) (oi:=(⟨ς 57,.load 22 (δ 56),22,"l1_hash.go:143",#[⟨8,φ⟩],ν⟩:Oper)) (v:=σ (ς ⟨b,off,ν⟩) cn cc) rfl (by kernel_rfl) (by kernel_rfl) (by kernel_rfl) (λ_ _ _ h=>h) (VV ⟨by rfl,λw jS=>by obtain⟨hs0,hs1,hs3⟩:=jS;go_simp⟩) ⟨a0,a1,hcv⟩ ?_;simp only [zS]
   refine tk 10 (v:=ψ (ς ⟨g,0,ν⟩)) ⟨a0,a1,hcv⟩ ?_;simp only [zS]
   refine tk 11 (v:=ψ (ς ⟨g,0,ν⟩)) ⟨a0,a1,hcv⟩ ?_;simp only [zS]
   refine tk 12 (v:=ψ (ς ⟨g,1,ν⟩)) ⟨a0,a1,hcv⟩ ?_;simp only [zS]
   refine wpAnyH_take (i:=13) (oi:=(⟨ς 61,.load 3 (δ 60),3,"l1_hash.go:143",#[⟨12,φ⟩],ν⟩:Oper)) (v:=ι κ ((z:Int)+1)) rfl (by kernel_rfl) (by kernel_rfl) (by kernel_rfl) (λ_ _ _ h=>h) (VV ⟨by rfl,λw jS=>by obtain⟨hs0,hs1,hs3⟩:=jS;go_simp⟩) ⟨a0,a1,hcv⟩ ?_;simp only [zS]
   refine tk 14 (v:=ι κ z) ⟨a0,a1,hcv⟩ ?_;simp only [zS]
   refine tk 15 (v:=ψ (ς ⟨b,off+z,ν⟩)) ⟨a0,a1,hcv⟩ ?_;simp only [zS]
   refine wpAnyH_take (i:=16) (oi:=(⟨ς 64,.load 5 (δ 63),5,"l1_hash.go:143",#[⟨15,φ⟩],ν⟩:Oper)) (v:=ι .u8 vn) rfl (by kernel_rfl) (by kernel_rfl) (by kernel_rfl) (λ_ _ _ h=>h) (VV ⟨by rfl,λw jS=>by obtain⟨hs0,hs1,hs3⟩:=jS;go_simp⟩) ⟨a0,a1,hcv⟩ ?_;simp only [zS]
   refine tk 17 (v:=ι κ vn) ⟨a0,a1,hcv⟩ ?_;simp only [zS]
   refine rd 4 (λK hK=>?_);go_simp;refine hK.out _ _ ⟨a0,a1,hcv⟩ (λ_=>?_);clear hK K;refine tk 5 (v:=ι κ ((s:Int) * 31)) ⟨a0,a1,hcv⟩ ?_;simp only [zS]
   refine tk 18 (v:=ι κ ((s:Int) * 31+vn)) ⟨a0,a1,hcv⟩ ?_;simp only [zS]
   refine tk 19 (v:=ι κ ((s:Int) * 31+vn+7)) ⟨a0,a1,hcv⟩ ?_;simp only [zS]
   refine tk 20 (v:=ι κ (s2:Nat)) ⟨a0,a1,hcv⟩ ?_;simp only [zS]
   refine tk 21 (v:=ψ (ς ⟨g,0,ν⟩)) ⟨a0,a1,hcv⟩ ?_;simp only [zS]
   refine tk 22 (v:=ψ (ς ⟨g,2,ν⟩)) ⟨a0,a1,hcv⟩ ?_;simp only [zS]
   refine rd 23 (λK hK=>?_);go_simp;refine hK.out _ _ ⟨(World.cell?_setCell_other (h:=n20) ..).trans a0,(World.cell?_setCell_other (h:=n21) ..).trans a1,(World.cell?_setCell_far _ _ _ _ (λe=>hbg e.symm)).trans hcv⟩ (λ_=>?_);clear hK K;refine VP (by kernel_rfl) ?_ _;go_wp2;go_quiet (fail)
   go_wp2;go_ret
   refine⟨_,s2,rfl,by omega,by omega,?_,L3 (AQ (L3 HG.out _) (Ai _ _ _ _)) _⟩;exact((HC.out.drawn _).set2 s2 hs2l).drawn _
end Go.Proofs.YtoeencbghldmdaaGreatDoor
namespace Go.Proofs.YtoeencbghldmdaaGreatDoor
open Go.RowKit Go.Maps Go.WideMaps
set_option maxRecDepth 20000
set_option maxHeartbeats 4000000
theorem F9{w w':ο}(h:υ w.heap.size w w')(r:Option Nat):w.grownBy w' r:=⟨h.os,h.tape,h.output,h.size,λk hk _=>h.block k hk⟩
def NB(s:ByteArray)(j:Nat):Nat:=if h:j<s.size then s[j].toNat else 0
theorem Rs(s:ByteArray)(j:Nat):NB s j<256:=by
 unfold NB;split
 · exact UInt8.toNat_lt _
 · omega
theorem Hq(w:ο):υ w.heap.size w w.drew:=⟨rfl,rfl,rfl,VD _,λ_ _=>rfl⟩
def Mx(s:ByteArray)(a:Nat):Nat->Nat
 | 0=>0
 | j+1=>Mx s a j * 256+NB s (a+j)
theorem MN(x y:Int):wrap64 (wrap64 (wrap64 x * 256)+y)=wrap64 (x * 256+y):=by
 unfold wrap64;omega
theorem UD(s:ByteArray)(a n:Nat)(w:ο)(hs:s.size<=1048576)(hn:n<=8)(h:a+n<=s.size):VK μ 41 #[τ s,ι κ a,ι κ n] w λe w'=>e=ρ (ι κ (wrap64 (Mx s a n:Nat)))/\w'=w:=by
 go_enter Tryz.func41,Tryz.ntmps41
 go_wp2;go_loop [7,8] (λx i=>∃ j:Nat,j<=n/\i=ι κ j/\x=ι κ (wrap64 (Mx s a j:Nat))) (λ_ i=>n - (VQ i).toNat)
 case atStart=>exact⟨0,by omega,rfl,by simp [Mx,wrap64]⟩
 case round=>
  obtain⟨j,hj,rfl,rfl⟩:=hrel;by_cases hlt:j<n
  ·
   have hi:a+j<s.size:=by omega
   have h2:=Rs s (a+j);have e8:NB s (a+j)=s[a+j].toNat:=by unfold NB;rw [dif_pos hi]
   have HB:Hid (Mx s a (j+1)=Mx s a j * 256+NB s (a+j)):=rfl;have HW:=MN (Mx s a j:Nat) (NB s (a+j):Nat);have HWW:Hid (wrap64 (wrap64 (wrap64 ((Mx s a j:Nat):Int) * 256)+((NB s (a+j):Nat):Int))=wrap64 (((Mx s a j:Nat):Int) * 256+((NB s (a+j):Nat):Int))):=HW;clear HW;rw [e8] at HB HWW h2;clear e8;have hw8:=Uo s[a+j];go_wp2;go_round
   case rel=>exact⟨j+1,by omega,by go_num,by rw [HWW.out,HB.out];simp⟩
   case measure=>simp [VQ];omega
  ·
   obtain rfl:j=n:=by omega
   go_wp2;go_ret
   exact⟨rfl,rfl⟩
def BL(w:ο)(B:Nat)(s:ByteArray)(a:Int):Prop:=w.heap[B]?=ς (γ #[τ s,ι κ a] 54 (0,0))
theorem BL.lt{w:ο}{B:Nat}{s:ByteArray}{a:Int}(h:BL w B s a):B<w.heap.size:=(VL.1 h).1
theorem BL.later{w w':ο}{B:Nat}{s:ByteArray}{a:Int}(h:BL w B s a)(hb:υ w.heap.size w w'):BL w' B s a:=(hb.block B h.lt).trans h
theorem BL.set{w:ο}{B:Nat}{s:ByteArray}{a:Int}(h:BL w B s a)(a':Int):BL (w.setCell ⟨B,1,ν⟩ (ι κ a')) B s a':=π _ _ 1 _ _ _ h
theorem BL.c0{w:ο}{B:Nat}{s:ByteArray}{a:Int}(h:BL w B s a):w.cell? ⟨B,0,ν⟩=ς (τ s):=(ε _ _ 0 _ _ _ h).trans rfl
theorem BL.c1{w:ο}{B:Nat}{s:ByteArray}{a:Int}(h:BL w B s a):w.cell? ⟨B,1,ν⟩=ς (ι κ a):=(ε _ _ 1 _ _ _ h).trans rfl
theorem BL.f1{w:ο}{B:Nat}{s:ByteArray}{a:Int}(h:BL w B s a):w.frozen? ⟨B,1,ν⟩=false:=ζ _ _ 1 _ _ h
theorem Qw(B:Nat)(s:ByteArray)(a' n:Nat)(w:ο)(h:BL w B s (a':Nat))(hs:s.size<=1048576)(hn:n<=8)(hl:a'+n<=s.size):VK μ 14 #[ψ (ς ⟨B,0,ν⟩),ι κ n] w λe w'=>e=ρ (ι κ (wrap64 (Mx s a' n:Nat)))/\BL w' B s ((a'+n:Nat):Int)/\w.grownBy w' (ς B):=by
 have c0:=h.c0;have c1:=h.c1;have f1:=h.f1;have i1:¬(a':Int)<0:=by omega
 have i2:IntKind.i64.wrap ((a':Int)+n)=(a':Int)+n:=by rw [IntKind.wrap_i64];omega
 have i4:wrap64 ((a':Int)+n)=(a':Int)+n:=by unfold wrap64;omega
 have i3:¬(s.size:Int)<(a':Int)+n:=by omega
 go_enter Tryz.func14,Tryz.ntmps14
 go_wp2;go_quiet (fail)
 have HX:BL ((w.drewN nq).setCell ⟨B,1,ν⟩ (ι κ ((a':Int)+n))) B s ((a':Int)+n):=BL.set (w:=w.drewN nq) h _;have e0:=HX.c0;have e1:=HX.c1;have hG:w.grownBy ((w.drewN nq).setCell ⟨B,1,ν⟩ (ι κ ((a':Int)+n))) (ς B):=AQ (F9 (Qe w nq) _) (Ai _ _ _ _);have i5:IntKind.i64.wrap ((a':Int)+n - n)=(a':Int):=by rw [IntKind.wrap_i64];omega
 have i6:(a':Int)+n - n=a':=by omega
 go_wp2;generalize (w.drewN nq).setCell ⟨B,1,ν⟩ (ι κ ((a':Int)+n))=V at *;go_quiet ((go_at_call 41;exact Calls.quiet_of_same (UD s a' n _ hs hn hl)))
 go_wp2;go_ret
 exact⟨rfl,HX,AQ hG (F9 (Qe V nq) _)⟩
def At(s:ByteArray)(a:Nat)(L:List UInt8):Prop:=a+L.length<=s.size/\∀ i (h:i<L.length),NB s (a+i)=L[i].toNat
theorem At.left{s:ByteArray}{a:Nat}{L M:List UInt8}(h:At s a (L ++ M)):At s a L:=by
 obtain⟨h1,h2⟩:=h;rw [VJ] at h1;refine⟨by omega,λi hi=>?_⟩;have:=h2 i (by rw [VJ];omega);rw [List.getElem_append_left hi] at this;exact this
theorem At.right{s:ByteArray}{a:Nat}{L M:List UInt8}(h:At s a (L ++ M)):At s (a+L.length) M:=by
 obtain⟨h1,h2⟩:=h;rw [VJ] at h1;refine⟨by omega,λi hi=>?_⟩;have:=h2 (L.length+i) (by rw [VJ];omega);rw [List.getElem_append_right (by omega)] at this;simp only [Nat.add_sub_cancel_left] at this
 rw [Nat.add_assoc];exact this
theorem Rr(s:ByteArray):At s 0 s.data.toList:=by
 refine⟨by simp,λi hi=>?_⟩;have hi':i<s.size:=by simpa using hi
 unfold NB;rw [dif_pos (by omega)];simp
 rfl
theorem Ny(u m:Int):(u / 256 % m) * 256+u % 256=u % (m * 256):=by
 have e1:u / (m * 256)=u / 256 / m:=by rw [Int.mul_comm,Int.ediv_ediv_of_nonneg (by omega)]
 have e2:=Int.emod_def u (m * 256);have e3:=Int.emod_def (u / 256) m;have e4:=Int.emod_def u 256;rw [e2,e1,e3,e4,Int.sub_mul];have e5:m * (u / 256 / m) * 256=m * 256 * (u / 256 / m):=by rw [Int.mul_assoc,Int.mul_comm (u / 256 / m) 256,←Int.mul_assoc]
 rw [e5];omega
theorem O0{s:ByteArray}{a k:Nat}{v:Int}(h:At s a (AX k v)):∀ j,j<=k->((Mx s a j:Nat):Int)=v / 256 ^ (k - j) % 256 ^ j
 | 0,_=>by simp [Mx,Int.emod_one]
 | j+1,hj=>by
  have ih:=O0 h j (by omega);have hl:j<(AX k v).length:=by rw [AH];omega
  have h2:=h.2 j hl;have h3:(AX k v)[j]=Tu v (k - 1 - j):=by simp [AX]
  rw [h3] at h2;have h4:=MF v (k - 1 - j);rw [Mx,Int.natCast_add,Int.natCast_mul,ih,h2,h4];have e1:v / 256 ^ (k - j)=v / 256 ^ (k - 1 - j) / 256:=by
   rw [show k - j=(k - 1 - j)+1 by omega,Int.pow_succ,Int.ediv_ediv_of_nonneg (Int.pow_nonneg (by omega))]
  rw [e1,show k - (j+1)=k - 1 - j by omega,Int.pow_succ];exact Ny _ _
theorem BZ{v:Int}(h0:0<=v)(h1:v<256):wrap64 (v % 256 ^ 1)=v:=by
 have:(256:Int) ^ 1=256:=by decide
 rw [this];unfold wrap64;omega
theorem Kl{v:Int}(h0:0<=v)(h1:v<65536):wrap64 (v % 256 ^ 2)=v:=by
 have:(256:Int) ^ 2=65536:=by decide
 rw [this];unfold wrap64;omega
theorem NC{v:Int}(h0:-9223372036854775808<=v)(h1:v<=9223372036854775807):wrap64 (v % 256 ^ 8)=v:=by
 have:(256:Int) ^ 8=18446744073709551616:=by decide
 rw [this];unfold wrap64;omega
theorem Rl{s t:ByteArray}{a:Nat}(h:At s a t.data.toList):s.extract a (a+t.size)=t:=by
 have hl:t.data.toList.length=t.size:=by simp
 have h1:=h.1;rw [hl] at h1;apply ByteArray.ext_getElem
 · rw [ByteArray.size_extract];omega
 ·
  intro i hi hj;have h2:=h.2 i (by omega);unfold NB at h2;rw [dif_pos (by omega)] at h2;rw [ByteArray.getElem_extract];apply UInt8.toNat_inj.1
  rw [h2];simp
  rfl
theorem Bw(B:Nat)(s:ByteArray)(a k:Nat)(v:Int)(w:ο)(h:BL w B s (a:Nat))(hs:s.size<=1048576)(hk:k<=8)(hA:At s a (AX k v))(hv:wrap64 (v % 256 ^ k)=v):VK μ 14 #[ψ (ς ⟨B,0,ν⟩),ι κ k] w λe w'=>e=ρ (ι κ v)/\BL w' B s ((a+k:Nat):Int)/\w.grownBy w' (ς B):=by
 have hl:=hA.1;rw [AH] at hl;refine(Qw B s a k w h hs hk hl).mono ?_;rintro e w' ⟨rfl,h1,h2⟩;have e:=O0 hA k (VD _);rw [Nat.sub_self,Int.pow_zero,Int.ediv_one] at e;rw [e,hv];exact⟨rfl,h1,h2⟩
theorem Cv(B:Nat)(s:ByteArray)(a k:Nat)(t:ByteArray)(w:ο)(h:BL w B s (a:Nat))(hs:s.size<=1048576)(hk:k<=2)(hA:At s a (AX k t.size ++ t.data.toList))(hv:wrap64 ((t.size:Int) % 256 ^ k)=t.size):VK μ 15 #[ψ (ς ⟨B,0,ν⟩),ι κ k] w λe w'=>e=ρ (τ t)/\BL w' B s ((a+k+t.size:Nat):Int)/\w.grownBy w' (ς B):=by
 have hl:=hA.1;rw [VJ,AH] at hl;have hT:=hA.right;rw [AH] at hT;have hx:=Rl hT;have hl':a+k+t.size<=s.size:=by simpa [Nat.add_assoc] using hl
 go_enter Tryz.func15,Tryz.ntmps15
 go_wp2_with (go_at_call 14;refine(Bw B s a k t.size _ h hs (by omega) hA.left hv).mono ?_;rintro e w1 ⟨rfl,h1,hg1⟩)
 have c0:=h1.c0;have c1:=h1.c1;have f1:=h1.f1;have i1:¬((a+k:Nat):Int)<0:=by omega
 have i2:IntKind.i64.wrap (((a+k:Nat):Int)+(t.size:Int))=((a+k:Nat):Int)+t.size:=by rw [IntKind.wrap_i64];omega
 have i4:wrap64 (((a+k:Nat):Int)+(t.size:Int))=((a+k:Nat):Int)+t.size:=by unfold wrap64;omega
 have i3:¬(s.size:Int)<((a+k:Nat):Int)+t.size:=by omega
 clear h;generalize hq:a+k=q at *;go_quiet (fail)
 have HX:BL ((w1.drewN nq).setCell ⟨B,1,ν⟩ (ι κ ((q:Int)+t.size))) B s ((q:Int)+t.size):=BL.set (w:=w1.drewN nq) h1 _;have e0:=HX.c0;have e1:=HX.c1;have hG:w1.grownBy ((w1.drewN nq).setCell ⟨B,1,ν⟩ (ι κ ((q:Int)+t.size))) (ς B):=AQ (F9 (Qe w1 nq) _) (Ai _ _ _ _);have i5:IntKind.i64.wrap ((q:Int)+t.size - t.size)=(q:Int):=by rw [IntKind.wrap_i64];omega
 have i6:(q:Int)+t.size - t.size=q:=by omega
 have hsl:∀ x:ο,(Instr.slice 9 (τ s) (ς (ι κ (q:Int))) (ς (ι κ ((q:Int)+t.size))) ν).run μ x=.ok (τ t) x:=λx=>by
  rw [run_slice_string_if x 9 _ _ _ _ _ Tryz.underlying9,if_pos (by omega),if_pos (by omega),show ((q:Int)+t.size).toNat=q+t.size by omega];exact congrArg (λz=>Result.ok (τ z) x) hx
 go_wp2;generalize (w1.drewN nq).setCell ⟨B,1,ν⟩ (ι κ ((q:Int)+t.size))=V at *;go_quiet (fail)
 go_wp2;go_ret
 exact⟨rfl,by rw [hq];exact HX,AQ (AQ hg1 hG) (F9 (Qe V nq) _)⟩
