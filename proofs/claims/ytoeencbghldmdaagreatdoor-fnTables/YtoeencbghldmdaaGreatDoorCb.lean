import Derived.Test.YtoeencbghldmdaaGreatDoorTf
import Derived.Test.YtoeencbghldmdaaGreatDoorKg
import Derived.Test.YtoeencbghldmdaaGreatDoorUm
import Derived.Test.YtoeencbghldmdaaGreatDoorXg
open Array renaming getElem?_eq_some_iff → VL
open Bool renaming and_eq_true → VO
open ByteArray renaming empty → VG
open Go renaming Calls → VK, Value → VN, World → ο, cell_of_row → ε, frozen_of_row → ζ, heap_alloc_new → η, wpList_append_lies → VR, bodyPost_ret → VE, heap_setCell_same → π, wpAnyH_done → VP, wp_region_held_drew → VH
open Go.Ending renaming returned → ρ
open Go.Ground renaming data → φ
open Go.IntKind renaming i64 → κ
open Go.Obj renaming cells → γ
open Go.Operand renaming tmp → δ
open Go.Proofs.Tryz renaming prog → μ
open Go.RowKit renaming Below → υ, intOf → VQ
open Go.RowKit.Below renaming refl → VT
open Go.Value renaming agg → χ, int → ι, pointer → ψ, slice → σ, string → τ, bool → β, tuple → θ
open Go.World renaming news_of_block → VI, ownsRow_made → VU
open List renaming length_append → VJ
open Nat renaming le_refl → VD, le_trans → VX, not_lt_zero → Vc, zero_add → VM, zero_le → VS, add_zero → Vf
open Option renaming none → ν, some → ς
open Option.some renaming inj → VF
open Or renaming inl → VV, inr → Vb
namespace Go.Proofs.YtoeencbghldmdaaGreatDoor
open Go.RowKit
abbrev GK(x:Int):Prop:=-9223372036854775808<=x/\x<=9223372036854775807
def nR(x:Int):Bool:=C0 x && decide (GK x)
def G6(o m:Int)(s:ByteArray):Bool:=Aa o m s && decide (GK m)
def Fc(o m:Int)(s:ByteArray):Bool:=Aq o m s && decide (GK m)
theorem vR{o m:Int}{s:ByteArray}(h:G6 o m s=true):Aa o m s=true/\GK m:=by simpa only [G6,VO,decide_eq_true_eq] using h
theorem iR{o m:Int}{s:ByteArray}(h:Fc o m s=true):Aq o m s=true/\GK m:=by simpa only [Fc,VO,decide_eq_true_eq] using h
theorem T4{o:Int}{s:ByteArray}(h:Aq o 0 s=true):Fc o 0 s=true:=by simp [Fc,h]
theorem Uu{x:Int}(h:nR x=true):C0 x=true/\GK x:=by simpa only [nR,VO,decide_eq_true_eq] using h
theorem U6{x:Int}(h:nR x=true):Fc 1 x ⟨#[]⟩=true:=by
 obtain⟨h1,h2⟩:=Uu h;have z:(⟨#[]⟩:ByteArray).size=0:=rfl;simp [Fc,Aq,h1,h2,z]
theorem U3{x:Int}(h:nR x=true):G6 1 x ⟨#[]⟩=true:=by
 obtain⟨h1,h2⟩:=Uu h;have z:(⟨#[]⟩:ByteArray).size=0:=rfl;simp [G6,Aa,h1,h2,z]
theorem U2{s:ByteArray}(h:A6 s=true):G6 2 0 s=true:=by simp [G6,Aa,h]
structure RG(d:St):Prop where
 va:∀ j,j<d.n3->GK (d.V j).m
 ex:∀ j,j<d.n5->GK (d.E j).m
 wh:∀ j,j<d.n6->GK (d.W j).m
 ou:∀ k,k<d.n7->∀ j,j<d.m7 k->GK (d.O k j).m
end Go.Proofs.YtoeencbghldmdaaGreatDoor
namespace Go.Proofs.YtoeencbghldmdaaGreatDoor
open Go.RowKit Go.Maps Go.WideMaps
set_option maxRecDepth 20000
set_option maxHeartbeats 16000000
theorem OT{a b:ο}{r:Option Nat}(h:a.grownBy b r){C i:Nat}{v:VN}(hC:a.heap.size<=C):a.grownBy (b.setCell ⟨C,i,ν⟩ v) r:=
 have hb:υ C b (b.setCell ⟨C,i,ν⟩ v):=(VT C b).setCell (VD C) v;⟨hb.os.trans h.os,hb.tape.trans h.tape,hb.output.trans h.output,VX h.size hb.size,λk hk hn=>(heap_setCell_other _ _ _ _ (λe=>by have e':k=C:=e;omega)).trans (h.block k hk hn)⟩
theorem QZ{a b:ο}{r:Option Nat}(h:a.grownBy b r)(o:Obj):a.grownBy (b.alloc o) r:=AQ h (F9 (AD _ _) r)
theorem EJ{w w':ο}{q B:Nat}{o:Obj}(h:w.heap[q]?=ς o)(hg:w.grownBy w' (ς B))(hne:q≠B):w'.heap[q]?=ς o:=
 (hg.block q (VL.1 h).1 (λe=>hne (by injection e))).trans h
theorem Np{w:ο}{base e size g n cap:Nat}{xs:List VN}(h:w.ownsRow base e size (σ (ς ⟨g,0,ν⟩) n cap) n xs):n<=cap/\cap<=maxLen:=by
 obtain⟨hl,hh⟩:=h;rcases hh with ⟨hh,_⟩ | ⟨gg,cap',cur,e1,e2,e3,e4,e5,e6,e7⟩
 · simp at hh
 ·
  simp only [Value.slice.injEq,Option.some.injEq,Addr.mk.injEq,and_true,true_and] at e1
  obtain⟨rfl,rfl⟩:=e1;exact⟨e4,e5⟩
theorem Iz{w w':ο}{base e size g n cap m C:Nat}{xs:List VN}(h:w.ownsRow base e size (σ (ς ⟨g,0,ν⟩) n cap) m xs)(hg:w.grownBy w' (ς C))(hne:g≠C):w'.ownsRow base e size (σ (ς ⟨g,0,ν⟩) n cap) m xs:=by
 obtain⟨hl,hh⟩:=h;refine⟨hl,?_⟩;rcases hh with hh | ⟨gg,cap',cur,e1,e2,e3,e4⟩
 · exact VV hh
 ·
  have e5:g=gg:=by
   simp only [Value.slice.injEq,Option.some.injEq,Addr.mk.injEq,and_true] at e1
   exact e1.1
  subst e5;exact Vb ⟨g,cap',cur,e1,e2,EJ e3 hg hne,e4⟩
theorem Ek{s:ByteArray}{a:Nat}{F:Nat->List UInt8}:∀ {n:Nat},At s a (Aj F n)->∀ j,j<n->At s (a+(Aj F j).length) (F j)
 | 0,_,j,hj=>by omega
 | n+1,h,j,hj=>by
  rw [Aj] at h;by_cases e:j=n
  · subst e;exact h.right
  · exact Ek h.left j (by omega)
theorem Fu{s:ByteArray}(h:s.size=0):s=⟨#[]⟩:=BD (((BY s).2 h).trans ((BY ⟨#[]⟩).2 rfl).symm)
theorem Pa{i:Itm}(h:Aq i.o i.m i.s=true)(hr:GK i.m):(∃ m,i=⟨1,m,⟨#[]⟩⟩/\-9223372036854775808<=m/\m<=9223372036854775807)∨(∃ t,i=⟨2,0,t⟩/\t.size<=200)∨(∃ t,i=⟨3,0,t⟩/\t.size<=200)∨∃ o,i=⟨o,0,⟨#[]⟩⟩/\4<=o/\o<=13:=by
 obtain⟨o,m,t⟩:=i;simp only [Aq,Bool.or_eq_true,VO,decide_eq_true_eq,beq_iff_eq] at h
 rcases h with ((⟨⟨rfl,h1⟩,h2⟩ | ⟨⟨rfl,rfl⟩,h2⟩) | ⟨⟨rfl,rfl⟩,h2⟩) | ⟨⟨h1,rfl⟩,h2⟩
 · obtain rfl:=Fu h2;exact .inl ⟨m,rfl,hr⟩
 · exact .inr (.inl ⟨t,rfl,EL h2⟩)
 · exact .inr (.inr (.inl ⟨t,rfl,by have:=Bb h2;omega⟩))
 ·
  obtain rfl:=Fu h2;simp [Bn] at h1
  exact .inr (.inr (.inr ⟨o,rfl,by omega,by omega⟩))
theorem G0(B:Nat)(s:ByteArray)(a:Nat)(I:Nat->Itm)(n:Nat)(w:ο)(h:BL w B s (a:Nat))(hs:s.size<=1048576)(hA:At s a (BC I n))(hn:n<=100)(hok:∀ j,j<n->Aq (I j).o (I j).m (I j).s=true)(hrg:∀ j,j<n->GK (I j).m) :
 VK μ 16 #[ψ (ς ⟨B,0,ν⟩)] w λe w'=>∃ g cap,e=ρ (σ (ς ⟨g,0,ν⟩) n cap)/\w'.ownsRow w.heap.size 42 3 (σ (ς ⟨g,0,ν⟩) n cap) n (BU (λj=>v3 (I j)) n)/\BL w' B s ((a+(BC I n).length:Nat):Int)/\w.grownBy w' (ς B):=by
 have hlt:=h.lt;obtain⟨i0,hi,hz0,hz1,hz2⟩:=info_parts Tryz.infoItm;have HI:Hid (Tryz.prog.info? 42=ς i0):=hi;clear hi;have hb0:=AD w (γ #[] 42);have hN:=Bw B s a 2 n _ (h.later hb0) hs (by omega) hA.left (Kl (by omega) (by omega));have HR:=hA.right;rw [AH] at HR;have HL:Hid (a+(BC I n).length=a+2+(Aj (λk=>CB (I k)) n).length):=by show _=_;unfold BC;rw [VJ,AH];omega
 rw [HL.out];clear HL hA h;have HT:∀ j,j<n->At s (a+2+(Aj (λk=>CB (I k)) j).length) (CB (I j)):=Ek HR;clear HR;have HS:∀ j,a+2+(Aj (λk=>CB (I k)) (j+1)).length=a+2+(Aj (λk=>CB (I k)) j).length+(CB (I j)).length:=λj=>by rw [Aj,VJ];omega
 have H0:a+2=a+2+(Aj (λk=>CB (I k)) 0).length:=rfl;rw [H0] at hN;clear H0;obtain⟨Q,hQ⟩:∃ Q:Nat->Nat,(λj=>a+2+(Aj (λk=>CB (I k)) j).length)=Q:=⟨_,rfl⟩;have HQ:∀ j,a+2+(Aj (λk=>CB (I k)) j).length=Q j:=λj=>congrFun hQ j;simp only [HQ] at hN HT HS ⊢
 clear HQ hQ;obtain⟨X,hX⟩:∃ X:Nat->List VN,(λj=>BU (λj=>v3 (I j)) j)=X:=⟨_,rfl⟩;have HX0:X 0=[]:=by rw [←hX];rfl
 have HX:Hid (∀ j,X (j+1)=X j ++ v3 (I j)):=λj=>by rw [←hX];exact Bs _ _
 have HXn:∀ j,BU (λj=>v3 (I j)) j=X j:=λj=>congrFun hX j;simp only [HXn]
 clear HXn hX;have HH:Hid ((∀ j,j<n->At s (Q j) (CB (I j)))/\(∀ j,Q (j+1)=Q j+(CB (I j)).length)):=⟨HT,HS⟩;clear HT HS;go_enter Tryz.func16,Tryz.ntmps16
 go_wp2_with (go_at_call 14;refine hN.mono ?_;rintro e w1 ⟨rfl,hP1,hg1⟩)
 go_loopw [3,5] (λv i wr=>∃ (j g cap:Nat),j<=n/\i=ι κ j/\v=σ (ς ⟨g,0,ν⟩) j cap/\wr.ownsRow w.heap.size 42 3 (σ (ς ⟨g,0,ν⟩) j cap) j (X j)/\BL wr B s (Q j:Nat)/\w.grownBy wr (ς B)) (λ_ i _=>n - (VQ i).toNat)
 case atStart=>
  refine⟨0,w.heap.size,0,by omega,rfl,rfl,?_,hP1,AQ (F9 hb0 _) hg1⟩;rw [HX0];exact AS (VU w #[] 0 (VD _) (by unfold maxLen;omega) rfl) hg1 hlt
 case round=>
  clear hN;obtain⟨j,g,cap,hj,rfl,rfl,hO,hP,hG⟩:=hrel;by_cases hlj:j<n
  rotate_left
  ·
   obtain rfl:j=n:=by omega
   go_wp2;go_ret
   exact⟨g,cap,rfl,hO,hP,hG⟩
  have hgg:=(hO.lt g rfl).1;have hgl:=(hO.lt g rfl).2;have hcp:=Np hO;have hsz:=hG.size;have c1:=hP.c1;have hA:=HH.out.1 j hlj;have HQ:Hid (Q (j+1)=Q j+(CB (I j)).length):=HH.out.2 j;have HNX:Hid (X (j+1)=X j ++ v3 (I j)):=HX.out j;have hk:=hok j hlj;have hkr:=hrg j hlj;obtain⟨q,hq⟩:∃ q,Q j=q:=⟨_,rfl⟩;rw [hq] at hA HQ hP c1;clear hq;have ia:(0:Int)<=(q:Int):=by omega
  obtain⟨i,hi⟩:∃ i,I j=i:=⟨_,rfl⟩;rw [hi] at hA HQ HNX hk hkr;clear hi;rcases Pa hk hkr with ⟨m,rfl,hm⟩ | ⟨t,rfl,ht⟩ | ⟨t,rfl,ht⟩ | ⟨o,rfl,ho⟩
  ·
   have hr:=hA.right;rw [AH] at hr;have HE:Hid (q+(CB ⟨1,m,⟨#[]⟩⟩).length=q+1+8):=by show _=_;simp only [CB,VJ,AH];simp only [if_true,AH]
   simp only [if_true] at hr
   clear hk hkr;go_wp2_with (first | (go_at_call 14;have _h:=hP2;refine(Bw B s (q+1) 8 m _ (hP2.later (AD _ _)) hs (by omega) hr (NC hm.1 hm.2)).mono ?_;rintro e w3 ⟨rfl,hP3,hg3⟩;have lR:Hid (w3.heap[w2.heap.size]?=ς (γ #[ι κ 1,ι κ 0,τ ⟨#[]⟩] 42 (0,0))):=EJ HL2.out hg3 hne3;have hO3:=Iz (AS (hO2.alloc (γ #[ι κ 1,ι κ 0,τ ⟨#[]⟩] 42)) hg3 hlt) (Ai w3 w2.heap.size 1 (ι κ m)) hne4;have hs3:=hg3.size;have l0:w3.cell? ⟨w2.heap.size,0,ν⟩=ς (ι κ 1):=(ε _ _ 0 _ _ _ lR.out).trans rfl;have lf0:w3.frozen? ⟨w2.heap.size,0,ν⟩=false:=ζ _ _ 0 _ _ lR.out;have l1:w3.cell? ⟨w2.heap.size,1,ν⟩=ς (ι κ 0):=(ε _ _ 1 _ _ _ lR.out).trans rfl;have lf1:w3.frozen? ⟨w2.heap.size,1,ν⟩=false:=ζ _ _ 1 _ _ lR.out;have l2:w3.cell? ⟨w2.heap.size,2,ν⟩=ς (τ ⟨#[]⟩):=(ε _ _ 2 _ _ _ lR.out).trans rfl;have lf2:w3.frozen? ⟨w2.heap.size,2,ν⟩=false:=ζ _ _ 2 _ _ lR.out;have hsW:(w3.setCell ⟨w2.heap.size,1,ν⟩ (ι κ m)).heap.size=w3.heap.size:=(by simp);have HNX2:=VI (η (w3.setCell ⟨w2.heap.size,1,ν⟩ (ι κ m)) (γ ([ι κ 1,ι κ m,τ ⟨#[]⟩]).toArray 42));rw [hsW] at HNX2) | (go_at_call 14;refine(Bw B s q 1 1 wr hP hs (by omega) hA.left (BZ (by omega) (by omega))).mono ?_;rintro e w2 ⟨rfl,hP2,hg2⟩;have hO2:=AS hO hg2 hlt;have hs2:=hg2.size;have hne3:w2.heap.size≠B:=(by omega);have hne4:g≠w2.heap.size:=(by omega);have HL2:Hid ((w2.alloc (γ #[ι κ 1,ι κ 0,τ ⟨#[]⟩] 42)).heap[w2.heap.size]?=ς (γ #[ι κ 1,ι κ 0,τ ⟨#[]⟩] 42 (0,0))):=η w2 _;have hsA:(w2.alloc (γ #[ι κ 1,ι κ 0,τ ⟨#[]⟩] 42)).heap.size=w2.heap.size+1:=(by simp)) | (at_builtin;refine VR _ rfl _ _ _ rfl w.heap.size 42 i0 (χ #[ι κ 0,ι κ 0,τ VG]) 3 32 Tryz.underlying31 HI.out hz0 hz1 hz2 rfl (by omega) _ j _ rfl (hO3.alloc _) ⟨w3.heap.size,0,ν⟩ 1 1 [ι κ 1,ι κ m,τ ⟨#[]⟩] rfl rfl HNX2 (by intro u hu;simp at hu;rcases hu with rfl | rfl | rfl <;> rfl) (by omega) (by unfold maxLen;omega) (by omega) (by simp;omega) _ rfl ?_;intro g4 cap4 w4 hO4 hgr4 hat4 hlt4))
   have G3:w.grownBy (w3.setCell ⟨w2.heap.size,1,ν⟩ (ι κ m)) (ς B):=OT (AQ (QZ (AQ hG hg2) _) hg3) (by omega);have Q6:w.grownBy w4 (ς B):=Ch (QZ G3 _) hgr4 (λi hi=>by have e:g=i:=VF hi;omega);have Q7:BL w4 B s (Q (j+1):Nat):=by rw [HQ.out,HE.out];exact EJ (B:=g) (BL.later (EJ hP3 (Ai w3 w2.heap.size 1 _) hne3.symm) (AD _ _)) hgr4 (by omega)
   go_roundw
   case rel=>first | exact⟨j+1,g4,cap4,by omega,by go_num,rfl,by rw [HNX.out];exact hO4,Q7,Q6⟩ | ((repeat apply Exists.intro);exact⟨⟨j+1,g4,cap4,by omega,by go_num,rfl,by rw [HNX.out];exact hO4,Q7,Q6⟩,rfl⟩)
   case measure=>simp [VQ];omega
  ·
   have hr:=hA.right;rw [AH] at hr;have HE:Hid (q+(CB ⟨2,0,t⟩).length=q+1+2+t.size):=by show _=_;simp [CB,EI,AH];omega
   replace hr:At s (q+1) (AX 2 t.size ++ t.data.toList):=hr;clear hk hkr;go_wp2_with (first | (go_at_call 15;have _h:=hP2;refine(Cv B s (q+1) 2 t _ (hP2.later (AD _ _)) hs (by omega) hr (Kl (by omega) (by omega))).mono ?_;rintro e w3 ⟨rfl,hP3,hg3⟩;have lR:Hid (w3.heap[w2.heap.size]?=ς (γ #[ι κ 2,ι κ 0,τ ⟨#[]⟩] 42 (0,0))):=EJ HL2.out hg3 hne3;have hO3:=Iz (AS (hO2.alloc (γ #[ι κ 2,ι κ 0,τ ⟨#[]⟩] 42)) hg3 hlt) (Ai w3 w2.heap.size 2 (τ t)) hne4;have hs3:=hg3.size;have l0:w3.cell? ⟨w2.heap.size,0,ν⟩=ς (ι κ 2):=(ε _ _ 0 _ _ _ lR.out).trans rfl;have lf0:w3.frozen? ⟨w2.heap.size,0,ν⟩=false:=ζ _ _ 0 _ _ lR.out;have l1:w3.cell? ⟨w2.heap.size,1,ν⟩=ς (ι κ 0):=(ε _ _ 1 _ _ _ lR.out).trans rfl;have lf1:w3.frozen? ⟨w2.heap.size,1,ν⟩=false:=ζ _ _ 1 _ _ lR.out;have l2:w3.cell? ⟨w2.heap.size,2,ν⟩=ς (τ ⟨#[]⟩):=(ε _ _ 2 _ _ _ lR.out).trans rfl;have lf2:w3.frozen? ⟨w2.heap.size,2,ν⟩=false:=ζ _ _ 2 _ _ lR.out;have hsW:(w3.setCell ⟨w2.heap.size,2,ν⟩ (τ t)).heap.size=w3.heap.size:=(by simp);have HNX2:=VI (η (w3.setCell ⟨w2.heap.size,2,ν⟩ (τ t)) (γ ([ι κ 2,ι κ 0,τ t]).toArray 42));rw [hsW] at HNX2) | (go_at_call 14;refine(Bw B s q 1 2 wr hP hs (by omega) hA.left (BZ (by omega) (by omega))).mono ?_;rintro e w2 ⟨rfl,hP2,hg2⟩;have hO2:=AS hO hg2 hlt;have hs2:=hg2.size;have hne3:w2.heap.size≠B:=(by omega);have hne4:g≠w2.heap.size:=(by omega);have HL2:Hid ((w2.alloc (γ #[ι κ 2,ι κ 0,τ ⟨#[]⟩] 42)).heap[w2.heap.size]?=ς (γ #[ι κ 2,ι κ 0,τ ⟨#[]⟩] 42 (0,0))):=η w2 _;have hsA:(w2.alloc (γ #[ι κ 2,ι κ 0,τ ⟨#[]⟩] 42)).heap.size=w2.heap.size+1:=(by simp)) | (at_builtin;refine VR _ rfl _ _ _ rfl w.heap.size 42 i0 (χ #[ι κ 0,ι κ 0,τ VG]) 3 32 Tryz.underlying31 HI.out hz0 hz1 hz2 rfl (by omega) _ j _ rfl (hO3.alloc _) ⟨w3.heap.size,0,ν⟩ 1 1 [ι κ 2,ι κ 0,τ t] rfl rfl HNX2 (by intro u hu;simp at hu;rcases hu with rfl | rfl | rfl <;> rfl) (by omega) (by unfold maxLen;omega) (by omega) (by simp;omega) _ rfl ?_;intro g4 cap4 w4 hO4 hgr4 hat4 hlt4))
   have G3:w.grownBy (w3.setCell ⟨w2.heap.size,2,ν⟩ (τ t)) (ς B):=OT (AQ (QZ (AQ hG hg2) _) hg3) (by omega);have Q6:w.grownBy w4 (ς B):=Ch (QZ G3 _) hgr4 (λi hi=>by have e:g=i:=VF hi;omega);have Q7:BL w4 B s (Q (j+1):Nat):=by rw [HQ.out,HE.out];exact EJ (B:=g) (BL.later (EJ hP3 (Ai w3 w2.heap.size 2 _) hne3.symm) (AD _ _)) hgr4 (by omega)
   go_roundw
   case rel=>first | exact⟨j+1,g4,cap4,by omega,by go_num,rfl,by rw [HNX.out];exact hO4,Q7,Q6⟩ | ((repeat apply Exists.intro);exact⟨⟨j+1,g4,cap4,by omega,by go_num,rfl,by rw [HNX.out];exact hO4,Q7,Q6⟩,rfl⟩)
   case measure=>simp [VQ];omega
  ·
   have hr:=hA.right;rw [AH] at hr;have HE:Hid (q+(CB ⟨3,0,t⟩).length=q+1+1+t.size):=by show _=_;simp [CB,BP,AH];omega
   replace hr:At s (q+1) (AX 1 t.size ++ t.data.toList):=hr;clear hk hkr;go_wp2_with (first | (go_at_call 15;have _h:=hP2;refine(Cv B s (q+1) 1 t _ (hP2.later (AD _ _)) hs (by omega) hr (BZ (by omega) (by omega))).mono ?_;rintro e w3 ⟨rfl,hP3,hg3⟩;have lR:Hid (w3.heap[w2.heap.size]?=ς (γ #[ι κ 3,ι κ 0,τ ⟨#[]⟩] 42 (0,0))):=EJ HL2.out hg3 hne3;have hO3:=Iz (AS (hO2.alloc (γ #[ι κ 3,ι κ 0,τ ⟨#[]⟩] 42)) hg3 hlt) (Ai w3 w2.heap.size 2 (τ t)) hne4;have hs3:=hg3.size;have l0:w3.cell? ⟨w2.heap.size,0,ν⟩=ς (ι κ 3):=(ε _ _ 0 _ _ _ lR.out).trans rfl;have lf0:w3.frozen? ⟨w2.heap.size,0,ν⟩=false:=ζ _ _ 0 _ _ lR.out;have l1:w3.cell? ⟨w2.heap.size,1,ν⟩=ς (ι κ 0):=(ε _ _ 1 _ _ _ lR.out).trans rfl;have lf1:w3.frozen? ⟨w2.heap.size,1,ν⟩=false:=ζ _ _ 1 _ _ lR.out;have l2:w3.cell? ⟨w2.heap.size,2,ν⟩=ς (τ ⟨#[]⟩):=(ε _ _ 2 _ _ _ lR.out).trans rfl;have lf2:w3.frozen? ⟨w2.heap.size,2,ν⟩=false:=ζ _ _ 2 _ _ lR.out;have hsW:(w3.setCell ⟨w2.heap.size,2,ν⟩ (τ t)).heap.size=w3.heap.size:=(by simp);have HNX2:=VI (η (w3.setCell ⟨w2.heap.size,2,ν⟩ (τ t)) (γ ([ι κ 3,ι κ 0,τ t]).toArray 42));rw [hsW] at HNX2) | (go_at_call 14;refine(Bw B s q 1 3 wr hP hs (by omega) hA.left (BZ (by omega) (by omega))).mono ?_;rintro e w2 ⟨rfl,hP2,hg2⟩;have hO2:=AS hO hg2 hlt;have hs2:=hg2.size;have hne3:w2.heap.size≠B:=(by omega);have hne4:g≠w2.heap.size:=(by omega);have HL2:Hid ((w2.alloc (γ #[ι κ 3,ι κ 0,τ ⟨#[]⟩] 42)).heap[w2.heap.size]?=ς (γ #[ι κ 3,ι κ 0,τ ⟨#[]⟩] 42 (0,0))):=η w2 _;have hsA:(w2.alloc (γ #[ι κ 3,ι κ 0,τ ⟨#[]⟩] 42)).heap.size=w2.heap.size+1:=(by simp)) | (at_builtin;refine VR _ rfl _ _ _ rfl w.heap.size 42 i0 (χ #[ι κ 0,ι κ 0,τ VG]) 3 32 Tryz.underlying31 HI.out hz0 hz1 hz2 rfl (by omega) _ j _ rfl (hO3.alloc _) ⟨w3.heap.size,0,ν⟩ 1 1 [ι κ 3,ι κ 0,τ t] rfl rfl HNX2 (by intro u hu;simp at hu;rcases hu with rfl | rfl | rfl <;> rfl) (by omega) (by unfold maxLen;omega) (by omega) (by simp;omega) _ rfl ?_;intro g4 cap4 w4 hO4 hgr4 hat4 hlt4))
   have G3:w.grownBy (w3.setCell ⟨w2.heap.size,2,ν⟩ (τ t)) (ς B):=OT (AQ (QZ (AQ hG hg2) _) hg3) (by omega);have Q6:w.grownBy w4 (ς B):=Ch (QZ G3 _) hgr4 (λi hi=>by have e:g=i:=VF hi;omega);have Q7:BL w4 B s (Q (j+1):Nat):=by rw [HQ.out,HE.out];exact EJ (B:=g) (BL.later (EJ hP3 (Ai w3 w2.heap.size 2 _) hne3.symm) (AD _ _)) hgr4 (by omega)
   go_roundw
   case rel=>first | exact⟨j+1,g4,cap4,by omega,by go_num,rfl,by rw [HNX.out];exact hO4,Q7,Q6⟩ | ((repeat apply Exists.intro);exact⟨⟨j+1,g4,cap4,by omega,by go_num,rfl,by rw [HNX.out];exact hO4,Q7,Q6⟩,rfl⟩)
   case measure=>simp [VQ];omega
  ·
   have e1:¬o=1:=by omega
   have e2:¬o=2:=by omega
   have e3:¬o=3:=by omega
   have HE:Hid (q+(CB ⟨o,0,⟨#[]⟩⟩).length=q+1):=by show _=_;simp [CB,e1,e2,e3,AH]
   have n1:(o == 1)=false:=by simpa using e1
   have n2:(o == 2)=false:=by simpa using e2
   have n3:(o == 3)=false:=by simpa using e3
   clear hk hkr;go_wp2_with (first | (go_at_call 14;refine(Bw B s q 1 o wr hP hs (by omega) hA.left (BZ (by omega) (by omega))).mono ?_;rintro e w2 ⟨rfl,hP2,hg2⟩;have hO2:=AS hO hg2 hlt;have hs2:=hg2.size;have hne3:w2.heap.size≠B:=(by omega);have hne4:g≠w2.heap.size:=(by omega);have HL2:Hid ((w2.alloc (γ #[ι κ o,ι κ 0,τ ⟨#[]⟩] 42)).heap[w2.heap.size]?=ς (γ #[ι κ o,ι κ 0,τ ⟨#[]⟩] 42 (0,0))):=η w2 _;have hsW:(w2.alloc (γ #[ι κ o,ι κ 0,τ ⟨#[]⟩] 42)).heap.size=w2.heap.size+1:=(by simp);have HNX2:=VI (η (w2.alloc (γ #[ι κ o,ι κ 0,τ ⟨#[]⟩] 42)) (γ ([ι κ o,ι κ 0,τ ⟨#[]⟩]).toArray 42));rw [hsW] at HNX2) | (at_builtin;refine VR _ rfl _ _ _ rfl w.heap.size 42 i0 (χ #[ι κ 0,ι κ 0,τ VG]) 3 32 Tryz.underlying31 HI.out hz0 hz1 hz2 rfl (by omega) _ j _ rfl ((hO2.alloc (γ #[ι κ o,ι κ 0,τ ⟨#[]⟩] 42)).alloc _) ⟨w2.heap.size+1,0,ν⟩ 1 1 [ι κ o,ι κ 0,τ ⟨#[]⟩] rfl rfl HNX2 (by intro u hu;simp at hu;rcases hu with rfl | rfl | rfl <;> rfl) (by omega) (by unfold maxLen;omega) (by omega) (by simp;omega) _ rfl ?_;intro g4 cap4 w4 hO4 hgr4 hat4 hlt4))
   have Q6:w.grownBy w4 (ς B):=Ch (QZ (QZ (AQ hG hg2) _) _) hgr4 (λi hi=>by have e:g=i:=VF hi;omega);have Q7:BL w4 B s (Q (j+1):Nat):=by rw [HQ.out,HE.out];exact EJ (B:=g) (BL.later (BL.later hP2 (AD _ _)) (AD _ _)) hgr4 (by omega)
   go_roundw
   case rel=>first | exact⟨j+1,g4,cap4,by omega,by go_num,rfl,by rw [HNX.out];exact hO4,Q7,Q6⟩ | ((repeat apply Exists.intro);exact⟨⟨j+1,g4,cap4,by omega,by go_num,rfl,by rw [HNX.out];exact hO4,Q7,Q6⟩,rfl⟩)
   case measure=>simp [VQ];omega
structure DS(w W:ο)(L:Nat)(X:Array VN)(s:ByteArray)(a:Nat):Prop where
 row:W.heap[L]?=ς (γ X 34 (0,0))
 res:W.heap[w.heap.size]?=ς (γ #[ι κ 0,τ ⟨#[]⟩,σ ν 0 0,σ ν 0 0,τ ⟨#[]⟩,σ ν 0 0,σ ν 0 0,σ ν 0 0] 34 (0,0))
 pl:BL W (w.heap.size+1) s (a:Nat)
 be:υ w.heap.size w W
 lt:w.heap.size+2<=L
theorem DS.ll{w W:ο}{L:Nat}{X:Array VN}{s:ByteArray}{a:Nat}(h:DS w W L X s a):L<W.heap.size:=(VL.1 h.row).1
theorem DS.gr{w W W':ο}{L:Nat}{X:Array VN}{s:ByteArray}{a a':Nat}(h:DS w W L X s a)(hg:W.grownBy W' (ς (w.heap.size+1)))(hp:BL W' (w.heap.size+1) s (a':Nat)):DS w W' L X s a':=
 ⟨EJ h.row hg (by have:=h.lt;omega),EJ h.res hg (by omega),hp,gB h.be hg (by omega),h.lt⟩
theorem DS.later{w W W':ο}{L:Nat}{X:Array VN}{s:ByteArray}{a:Nat}(h:DS w W L X s a)(hb:υ W.heap.size W W'):DS w W' L X s a:=
 ⟨AC h.row hb,AC h.res hb,h.pl.later hb,AA h.be hb,h.lt⟩
theorem DS.own{w W W':ο}{L g:Nat}{X:Array VN}{s:ByteArray}{a:Nat}(h:DS w W L X s a)(hg:W.grownBy W' (ς g))(hl:L<g):DS w W' L X s a:=
 ⟨EJ h.row hg (by omega),EJ h.res hg (by have:=h.lt;omega),EJ h.pl hg (by have:=h.lt;omega),gB h.be hg (by have:=h.lt;omega),h.lt⟩
theorem DS.set{w W:ο}{L:Nat}{X:Array VN}{s:ByteArray}{a:Nat}(h:DS w W L X s a)(i:Nat)(v:VN):DS w (W.setCell ⟨L,i,ν⟩ v) L (X.setIfInBounds i v) s a:=
 have hl:=h.lt;⟨π _ _ i _ _ _ h.row,Af h.res (by omega),EJ h.pl (Ai W L i v) (by omega),Bg h.be (by omega),hl⟩
theorem DS.s1{w W:ο}{L:Nat}{a0 a1 a2 a3 a4 a5 a6 a7:VN}{s:ByteArray}{a:Nat}(h:DS w W L #[a0,a1,a2,a3,a4,a5,a6,a7] s a)(v:VN):DS w (W.setCell ⟨L,1,ν⟩ v) L #[a0,v,a2,a3,a4,a5,a6,a7] s a:=h.set 1 v
theorem DS.s2{w W:ο}{L:Nat}{a0 a1 a2 a3 a4 a5 a6 a7:VN}{s:ByteArray}{a:Nat}(h:DS w W L #[a0,a1,a2,a3,a4,a5,a6,a7] s a)(v:VN):DS w (W.setCell ⟨L,2,ν⟩ v) L #[a0,a1,v,a3,a4,a5,a6,a7] s a:=h.set 2 v
theorem DS.s3{w W:ο}{L:Nat}{a0 a1 a2 a3 a4 a5 a6 a7:VN}{s:ByteArray}{a:Nat}(h:DS w W L #[a0,a1,a2,a3,a4,a5,a6,a7] s a)(v:VN):DS w (W.setCell ⟨L,3,ν⟩ v) L #[a0,a1,a2,v,a4,a5,a6,a7] s a:=h.set 3 v
theorem DS.s4{w W:ο}{L:Nat}{a0 a1 a2 a3 a4 a5 a6 a7:VN}{s:ByteArray}{a:Nat}(h:DS w W L #[a0,a1,a2,a3,a4,a5,a6,a7] s a)(v:VN):DS w (W.setCell ⟨L,4,ν⟩ v) L #[a0,a1,a2,a3,v,a5,a6,a7] s a:=h.set 4 v
theorem DS.s5{w W:ο}{L:Nat}{a0 a1 a2 a3 a4 a5 a6 a7:VN}{s:ByteArray}{a:Nat}(h:DS w W L #[a0,a1,a2,a3,a4,a5,a6,a7] s a)(v:VN):DS w (W.setCell ⟨L,5,ν⟩ v) L #[a0,a1,a2,a3,a4,v,a6,a7] s a:=h.set 5 v
theorem DS.s6{w W:ο}{L:Nat}{a0 a1 a2 a3 a4 a5 a6 a7:VN}{s:ByteArray}{a:Nat}(h:DS w W L #[a0,a1,a2,a3,a4,a5,a6,a7] s a)(v:VN):DS w (W.setCell ⟨L,6,ν⟩ v) L #[a0,a1,a2,a3,a4,a5,v,a7] s a:=h.set 6 v
theorem DS.s7{w W:ο}{L:Nat}{a0 a1 a2 a3 a4 a5 a6 a7:VN}{s:ByteArray}{a:Nat}(h:DS w W L #[a0,a1,a2,a3,a4,a5,a6,a7] s a)(v:VN):DS w (W.setCell ⟨L,7,ν⟩ v) L #[a0,a1,a2,a3,a4,a5,a6,v] s a:=h.set 7 v
theorem DS.c{w W:ο}{L:Nat}{a0 a1 a2 a3 a4 a5 a6 a7:VN}{s:ByteArray}{a:Nat}(h:DS w W L #[a0,a1,a2,a3,a4,a5,a6,a7] s a):W.cell? ⟨L,0,ν⟩=ς a0/\W.frozen? ⟨L,0,ν⟩=false/\W.cell? ⟨L,1,ν⟩=ς a1/\W.frozen? ⟨L,1,ν⟩=false/\W.cell? ⟨L,2,ν⟩=ς a2/\W.frozen? ⟨L,2,ν⟩=false/\W.cell? ⟨L,3,ν⟩=ς a3/\W.frozen? ⟨L,3,ν⟩=false/\W.cell? ⟨L,4,ν⟩=ς a4/\W.frozen? ⟨L,4,ν⟩=false/\W.cell? ⟨L,5,ν⟩=ς a5/\W.frozen? ⟨L,5,ν⟩=false/\W.cell? ⟨L,6,ν⟩=ς a6/\W.frozen? ⟨L,6,ν⟩=false/\W.cell? ⟨L,7,ν⟩=ς a7/\W.frozen? ⟨L,7,ν⟩=false:=
 have k:=λi=>ε _ _ i _ _ _ h.row;have f:=λi=>ζ _ _ i _ _ h.row;⟨(k 0).trans rfl,f 0,(k 1).trans rfl,f 1,(k 2).trans rfl,f 2,(k 3).trans rfl,f 3,(k 4).trans rfl,f 4,(k 5).trans rfl,f 5,(k 6).trans rfl,f 6,(k 7).trans rfl,f 7⟩
theorem DS.r{w W:ο}{L:Nat}{X:Array VN}{s:ByteArray}{a:Nat}(h:DS w W L X s a):W.cell? ⟨w.heap.size,0,ν⟩=ς (ι κ 0)/\W.frozen? ⟨w.heap.size,0,ν⟩=false/\W.cell? ⟨w.heap.size,1,ν⟩=ς (τ ⟨#[]⟩)/\W.frozen? ⟨w.heap.size,1,ν⟩=false/\W.cell? ⟨w.heap.size,2,ν⟩=ς (σ ν 0 0)/\W.frozen? ⟨w.heap.size,2,ν⟩=false/\W.cell? ⟨w.heap.size,3,ν⟩=ς (σ ν 0 0)/\W.frozen? ⟨w.heap.size,3,ν⟩=false/\W.cell? ⟨w.heap.size,4,ν⟩=ς (τ ⟨#[]⟩)/\W.frozen? ⟨w.heap.size,4,ν⟩=false/\W.cell? ⟨w.heap.size,5,ν⟩=ς (σ ν 0 0)/\W.frozen? ⟨w.heap.size,5,ν⟩=false/\W.cell? ⟨w.heap.size,6,ν⟩=ς (σ ν 0 0)/\W.frozen? ⟨w.heap.size,6,ν⟩=false/\W.cell? ⟨w.heap.size,7,ν⟩=ς (σ ν 0 0)/\W.frozen? ⟨w.heap.size,7,ν⟩=false:=
 have k:=λi=>ε _ _ i _ _ _ h.res;have f:=λi=>ζ _ _ i _ _ h.res;⟨(k 0).trans rfl,f 0,(k 1).trans rfl,f 1,(k 2).trans rfl,f 2,(k 3).trans rfl,f 3,(k 4).trans rfl,f 4,(k 5).trans rfl,f 5,(k 6).trans rfl,f 6,(k 7).trans rfl,f 7⟩
theorem Ok(w:ο)(s:ByteArray):((w.alloc (γ #[ι κ 0,τ ⟨#[]⟩,σ ν 0 0,σ ν 0 0,τ ⟨#[]⟩,σ ν 0 0,σ ν 0 0,σ ν 0 0] 34)).alloc (γ #[τ s,ι κ 0] 54)).heap.size=w.heap.size+2/\υ w.heap.size w ((w.alloc (γ #[ι κ 0,τ ⟨#[]⟩,σ ν 0 0,σ ν 0 0,τ ⟨#[]⟩,σ ν 0 0,σ ν 0 0,σ ν 0 0] 34)).alloc (γ #[τ s,ι κ 0] 54))/\Hid (((w.alloc (γ #[ι κ 0,τ ⟨#[]⟩,σ ν 0 0,σ ν 0 0,τ ⟨#[]⟩,σ ν 0 0,σ ν 0 0,σ ν 0 0] 34)).alloc (γ #[τ s,ι κ 0] 54)).heap[w.heap.size]?=ς (γ #[ι κ 0,τ ⟨#[]⟩,σ ν 0 0,σ ν 0 0,τ ⟨#[]⟩,σ ν 0 0,σ ν 0 0,σ ν 0 0] 34 (0,0)))/\BL ((w.alloc (γ #[ι κ 0,τ ⟨#[]⟩,σ ν 0 0,σ ν 0 0,τ ⟨#[]⟩,σ ν 0 0,σ ν 0 0,σ ν 0 0] 34)).alloc (γ #[τ s,ι κ 0] 54)) (w.heap.size+1) s (0:Nat):=by
 have hsA:(w.alloc (γ #[ι κ 0,τ ⟨#[]⟩,σ ν 0 0,σ ν 0 0,τ ⟨#[]⟩,σ ν 0 0,σ ν 0 0,σ ν 0 0] 34)).heap.size=w.heap.size+1:=by simp
 refine⟨by simp,AA (AD _ _) (AD _ _),AC (η w _) (AD _ _),?_⟩;have:=η (w.alloc (γ #[ι κ 0,τ ⟨#[]⟩,σ ν 0 0,σ ν 0 0,τ ⟨#[]⟩,σ ν 0 0,σ ν 0 0,σ ν 0 0] 34)) (γ #[τ s,ι κ 0] 54);rw [hsA] at this;exact this
theorem DS.new{w W W':ο}{X:Array VN}{s:ByteArray}{a:Nat}(hz:W.heap.size=w.heap.size+2)(hb:υ w.heap.size w W)(hr:Hid (W.heap[w.heap.size]?=ς (γ #[ι κ 0,τ ⟨#[]⟩,σ ν 0 0,σ ν 0 0,τ ⟨#[]⟩,σ ν 0 0,σ ν 0 0,σ ν 0 0] 34 (0,0))))(hg:W.grownBy W' (ς (w.heap.size+1)))(hp:BL W' (w.heap.size+1) s (a:Nat)):DS w (W'.alloc (γ X 34)) W'.heap.size X s a:=
 ⟨η W' _,AC (EJ hr.out hg (by omega)) (AD _ _),hp.later (AD _ _),AA (gB hb hg (by omega)) (AD _ _),by have:=hg.size;omega⟩
theorem Eg{w w':ο}{base lo e size n:Nat}{v:VN}{xs:List VN}(h:w.ownsRow base e size v n xs)(k:KpR lo w.heap.size w w')(hl:lo<=base):w'.ownsRow base e size v n xs:=by
 have hlt:=h.lt;obtain⟨h1,hh⟩:=h;refine⟨h1,?_⟩;rcases hh with hh | ⟨gg,cap',cur,e1,e2,e3,e4⟩
 · exact VV hh
 · exact Vb ⟨gg,cap',cur,e1,e2,k gg (by omega) (VL.1 e3).1 _ e3,e4⟩
theorem Ry{w:ο}{G e g cap n:Nat}{I:Nat->Itm}(h:w.ownsRow G e 3 (σ (ς ⟨g,0,ν⟩) n cap) n (BU (λk=>v3 (I k)) n))(hs:∀ k,k<n->(I k).s.size<=1048576):IL w (ς ⟨g,0,ν⟩) n I:=λk hk=>by
 have key:∀ j,j<3->w.cell? ⟨g,k * 3+j,ν⟩=(v3 (I k))[j]?:=λj hj=>(h.cellAt _ (by omega)).trans (EP (sz:=3) (λ_ _=>rfl) hk hj);refine⟨g,0,rfl,?_,?_,?_,hs k hk⟩
 · rw [VM];exact key 0 (by omega)
 · rw [VM];exact key 1 (by omega)
 · rw [VM];exact key 2 (by omega)
theorem OB(w:ο)(a:Option Addr)(I:Nat->Itm):IL w a 0 I:=λk hk=>absurd hk (Vc k)
theorem Tt(w:ο)(a:Option Addr)(C:Nat->Clm):CL w a 0 C:=λk hk=>absurd hk (Vc k)
theorem Ss(w:ο)(a:Option Addr)(m:Nat->Nat)(O:Nat->Nat->Itm):OL w a 0 m O:=λk hk=>absurd hk (Vc k)
theorem DS.fin{w W:ο}{L:Nat}{X:Array VN}{s:ByteArray}{a:Nat}(h:DS w W L X s a)(v0 v1 v2 v3 v4 v5 v6 v7:VN):((((((((W.setCell ⟨w.heap.size,0,ν⟩ v0).setCell ⟨w.heap.size,1,ν⟩ v1).setCell ⟨w.heap.size,2,ν⟩ v2).setCell ⟨w.heap.size,3,ν⟩ v3).setCell ⟨w.heap.size,4,ν⟩ v4).setCell ⟨w.heap.size,5,ν⟩ v5).setCell ⟨w.heap.size,6,ν⟩ v6).setCell ⟨w.heap.size,7,ν⟩ v7).heap[w.heap.size]?=ς (γ ((((((((#[ι κ 0,τ ⟨#[]⟩,σ ν 0 0,σ ν 0 0,τ ⟨#[]⟩,σ ν 0 0,σ ν 0 0,σ ν 0 0].setIfInBounds 0 v0).setIfInBounds 1 v1).setIfInBounds 2 v2).setIfInBounds 3 v3).setIfInBounds 4 v4).setIfInBounds 5 v5).setIfInBounds 6 v6).setIfInBounds 7 v7) 34 (0,0))/\υ w.heap.size w ((((((((W.setCell ⟨w.heap.size,0,ν⟩ v0).setCell ⟨w.heap.size,1,ν⟩ v1).setCell ⟨w.heap.size,2,ν⟩ v2).setCell ⟨w.heap.size,3,ν⟩ v3).setCell ⟨w.heap.size,4,ν⟩ v4).setCell ⟨w.heap.size,5,ν⟩ v5).setCell ⟨w.heap.size,6,ν⟩ v6).setCell ⟨w.heap.size,7,ν⟩ v7)/\∀ hi,KpR (w.heap.size+1) hi W ((((((((W.setCell ⟨w.heap.size,0,ν⟩ v0).setCell ⟨w.heap.size,1,ν⟩ v1).setCell ⟨w.heap.size,2,ν⟩ v2).setCell ⟨w.heap.size,3,ν⟩ v3).setCell ⟨w.heap.size,4,ν⟩ v4).setCell ⟨w.heap.size,5,ν⟩ v5).setCell ⟨w.heap.size,6,ν⟩ v6).setCell ⟨w.heap.size,7,ν⟩ v7):=by
 have k:∀ {hi W i v},KpR (w.heap.size+1) hi W (W.setCell ⟨w.heap.size,i,ν⟩ v):=λ{_ _ _ _}=>KpR.set (Nat.lt_succ_self _);refine⟨?_,?_,λhi=>(((((((k.trans k).trans k).trans k).trans k).trans k).trans k).trans k)⟩
 · exact π _ _ 7 _ _ v7 (π _ _ 6 _ _ v6 (π _ _ 5 _ _ v5 (π _ _ 4 _ _ v4 (π _ _ 3 _ _ v3 (π _ _ 2 _ _ v2 (π _ _ 1 _ _ v1 (π _ _ 0 _ _ v0 h.res)))))))
 · have b:∀ {W i v},υ w.heap.size w W->υ w.heap.size w (W.setCell ⟨w.heap.size,i,ν⟩ v):=λ{_ _ _} hb=>Bg hb (VD _);exact b (b (b (b (b (b (b (b h.be)))))))
theorem SK(tb:ByteArray)(C:Nat->Clm)(V E:Nat->Itm)(n:Nat)(I:Nat->Itm)(m7:Nat->Nat)(O:Nat->Nat->Itm)(s:ByteArray)(w:ο)(hs:s.size<=60000)(hs0:0<s.size)(hA:At s 0 (AX 1 4 ++ s8 tb ++ BC I n))(ht:tb.size<=30)(hn:n<=100)(hi:∀ j,j<n->Aq (I j).o (I j).m (I j).s=true)(hr:∀ j,j<n->GK (I j).m)(hE:CT ⟨4,tb,0,C,0,V,⟨#[]⟩,0,E,n,I,0,m7,O⟩=s) :
 VK μ 5 #[τ s] w λe w'=>∃ p,e=ρ (θ #[χ (GC ⟨4,tb,0,C,0,V,⟨#[]⟩,0,E,n,I,0,m7,O⟩ p),β true])/\SM w' ⟨4,tb,0,C,0,V,⟨#[]⟩,0,E,n,I,0,m7,O⟩ p/\υ w.heap.size w w'/\(⟨4,tb,0,C,0,V,⟨#[]⟩,0,E,n,I,0,m7,O⟩:St).n2<=p.c2:=by
 have t1:¬(60000:Int)<s.size:=by omega
 have t0:s.toList.isEmpty=false:=by rw [NA];exact decide_eq_false (by omega)
 obtain⟨hz0,hb0,HR0,hP0⟩:=Ok w s;have hN:=Bw (w.heap.size+1) s 0 1 4 _ hP0 (by omega) (by omega) hA.left.left (BZ (by omega) (by omega));have hT:=hA.left.right;have hX:=hA.right;rw [AH] at hT;rw [VJ,AH,BP,show 0+(1+(1+tb.size))=0+1+1+tb.size by omega] at hX;have HE:Hid (CT ⟨4,tb,0,C,0,V,⟨#[]⟩,0,E,n,I,0,m7,O⟩=s):=hE;clear hE;have hI:∀ j,j<n->(I j).s.size<=1048576:=λj hj=>by have:=Cm (hi j hj);omega
 have HM:∀ (W:ο) (G g cap:Nat),W.ownsRow G 42 3 (σ (ς ⟨g,0,ν⟩) n cap) n (BU (λk=>v3 (I k)) n)->SM W ⟨4,tb,0,C,0,V,⟨#[]⟩,0,E,n,I,0,m7,O⟩ ⟨ν,0,ν,0,ν,0,ς ⟨g,0,ν⟩,cap,ν,0⟩:=λW G g cap h=>⟨by show tb.size<=_;omega,VS _,Tt _ _ _,OB _ _ _,OB _ _ _,Ry h hI,Ss _ _ _ _,VS _,VS _,VS _,by show n<=_;omega,VS _⟩;go_enter Tryz.func5,Tryz.ntmps5
 go_wp2_with (first | (go_at_call 17;have _h:=D3;have Q3:=AS hO3 (Ai w3 w1.heap.size 6 (σ (ς ⟨g,0,ν⟩) n cap)) (by omega);refine(Ks ⟨4,tb,0,C,0,V,⟨#[]⟩,0,E,n,I,0,m7,O⟩ ⟨ν,0,ν,0,ν,0,ς ⟨g,0,ν⟩,cap,ν,0⟩ _ (HM _ _ _ _ Q3)).mono ?_;rintro e w9 ⟨rfl,hb9⟩;have D9:=D3.later hb9;have Q9:=AF Q3 hb9;obtain⟨y0,yf0,y1,yf1,y2,yf2,y3,yf3,y4,yf4,y5,yf5,y6,yf6,y7,yf7⟩:=DS.c D9;obtain⟨r0,rf0,r1,rf1,r2,rf2,r3,rf3,r4,rf4,r5,rf5,r6,rf6,r7,rf7⟩:=D9.r;rw [HE.out];have qq:=CG s) | (go_at_call 16;refine(G0 (w.heap.size+1) s (0+1+1+tb.size) I n _ D2.pl (by omega) hX (by omega) hi hr).mono ?_;rintro e w3 ⟨g,cap,rfl,hO3,hP3,hg3⟩;have E3:=D2.gr hg3 hP3;obtain⟨x0,xf0,x1,xf1,x2,xf2,x3,xf3,x4,xf4,x5,xf5,x6,xf6,x7,xf7⟩:=E3.c;have D3:=E3.s6 (σ (ς ⟨g,0,ν⟩) n cap)) | (go_at_call 15;refine(Cv (w.heap.size+1) s (0+1) 1 tb _ D1.pl (by omega) (by omega) hT (BZ (by omega) (by omega))).mono ?_;rintro e w2 ⟨rfl,hP2,hg2⟩;have E2:=D1.gr hg2 hP2;obtain⟨l0,lf0,l1,lf1,l2,lf2,l3,lf3,l4,lf4,l5,lf5,l6,lf6,l7,lf7⟩:=E2.c;have D2:=E2.s1 (τ tb);have B2:=D2.ll;have Z2:=w2.size_setCell ⟨w1.heap.size,1,ν⟩ (τ tb)) | (go_at_call 14;refine hN.mono ?_;rintro e w1 ⟨rfl,hP1,hg1⟩;have B0:=hg1.size;have D1:=DS.new (X:=#[ι κ 4,τ ⟨#[]⟩,σ ν 0 0,σ ν 0 0,τ ⟨#[]⟩,σ ν 0 0,σ ν 0 0,σ ν 0 0]) hz0 hb0 HR0 hg1 hP1;have B1:=D1.lt))
 have B1:=D1.lt;exact VE (v:=θ #[χ (GC ⟨4,tb,0,C,0,V,⟨#[]⟩,0,E,n,I,0,m7,O⟩ ⟨ν,0,ν,0,ν,0,ς ⟨g,0,ν⟩,cap,ν,0⟩),β true]) (AE Tryz.results5 _ _ w.heap.size 34 _ (0,0) _ rfl (D9.fin _ _ _ _ _ _ _ _).1 Tryz.underlying34 rfl (by kernel_rfl)) rfl ⟨⟨ν,0,ν,0,ν,0,ς ⟨g,0,ν⟩,cap,ν,0⟩,rfl,HM _ _ _ _ (Eg Q9 ((D9.fin _ _ _ _ _ _ _ _).2.2 _) (by omega)),(D9.fin _ _ _ _ _ _ _ _).2.1,VS _⟩
theorem SN(tb:ByteArray)(C:Nat->Clm)(V:Nat->Itm)(co:ByteArray)(n:Nat)(E:Nat->Itm)(m:Nat)(I:Nat->Itm)(m7:Nat->Nat)(O:Nat->Nat->Itm)(s:ByteArray)(w:ο)(hs:s.size<=60000)(hs0:0<s.size)(hA:At s 0 (AX 1 3 ++ s8 tb ++ (s8 co ++ BC E n ++ BC I m)))(ht:tb.size<=30)(hc:co.size<=30)(hn:n<=100)(hm:m<=100)(hj:∀ j,j<n->Aq (E j).o (E j).m (E j).s=true)(hq:∀ j,j<n->GK (E j).m)(hi:∀ j,j<m->Aq (I j).o (I j).m (I j).s=true)(hr:∀ j,j<m->GK (I j).m)(hE:CT ⟨3,tb,0,C,0,V,co,n,E,m,I,0,m7,O⟩=s) :
 VK μ 5 #[τ s] w λe w'=>∃ p,e=ρ (θ #[χ (GC ⟨3,tb,0,C,0,V,co,n,E,m,I,0,m7,O⟩ p),β true])/\SM w' ⟨3,tb,0,C,0,V,co,n,E,m,I,0,m7,O⟩ p/\υ w.heap.size w w'/\(⟨3,tb,0,C,0,V,co,n,E,m,I,0,m7,O⟩:St).n2<=p.c2:=by
 have t1:¬(60000:Int)<s.size:=by omega
 have t0:s.toList.isEmpty=false:=by rw [NA];exact decide_eq_false (by omega)
 obtain⟨hz0,hb0,HR0,hP0⟩:=Ok w s;have hN:=Bw (w.heap.size+1) s 0 1 3 _ hP0 (by omega) (by omega) hA.left.left (BZ (by omega) (by omega));have hT:=hA.left.right;have hX:=hA.right;rw [AH] at hT;rw [VJ,AH,BP,show 0+(1+(1+tb.size))=0+1+1+tb.size by omega] at hX;have hC:=hX.left.left;have hY:=hX.left.right;have hV:=hX.right;rw [VJ,←Nat.add_assoc] at hV;rw [BP,←Nat.add_assoc] at hY hV;have HE:Hid (CT ⟨3,tb,0,C,0,V,co,n,E,m,I,0,m7,O⟩=s):=hE;clear hE;have hI:∀ j,j<m->(I j).s.size<=1048576:=λj hj=>by have:=Cm (hi j hj);omega
 have hK:∀ k,k<n->(E k).s.size<=1048576:=λk hk=>by have:=Cm (hj k hk);omega
 have HM:∀ (W:ο) (G g cap H h cah:Nat),W.ownsRow G 42 3 (σ (ς ⟨g,0,ν⟩) n cap) n (BU (λk=>v3 (E k)) n)->W.ownsRow H 42 3 (σ (ς ⟨h,0,ν⟩) m cah) m (BU (λk=>v3 (I k)) m)->SM W ⟨3,tb,0,C,0,V,co,n,E,m,I,0,m7,O⟩ ⟨ν,0,ν,0,ς ⟨g,0,ν⟩,cap,ς ⟨h,0,ν⟩,cah,ν,0⟩:=λW G g cap H h cah p q=>⟨by show tb.size<=_;omega,by show co.size<=_;omega,Tt _ _ _,OB _ _ _,Ry p hK,Ry q hI,Ss _ _ _ _,VS _,VS _,by show n<=_;omega,by show m<=_;omega,VS _⟩;go_enter Tryz.func5,Tryz.ntmps5
 go_wp2_with (first | (go_at_call 17;have _h:=D5;have Q4:=AS (AS (AS hO4 (Ai w4 w1.heap.size 5 (σ (ς ⟨g,0,ν⟩) n cap)) (by omega)) hg5 (by omega)) (Ai w5 w1.heap.size 6 (σ (ς ⟨h,0,ν⟩) m cah)) (by omega);have Q5:=AS hO5 (Ai w5 w1.heap.size 6 (σ (ς ⟨h,0,ν⟩) m cah)) (by omega);refine(Ks ⟨3,tb,0,C,0,V,co,n,E,m,I,0,m7,O⟩ ⟨ν,0,ν,0,ς ⟨g,0,ν⟩,cap,ς ⟨h,0,ν⟩,cah,ν,0⟩ _ (HM _ _ _ _ _ _ _ Q4 Q5)).mono ?_;rintro e w9 ⟨rfl,hb9⟩;have D9:=D5.later hb9;have R4:=AF Q4 hb9;have R5:=AF Q5 hb9;obtain⟨y0,yf0,y1,yf1,y2,yf2,y3,yf3,y4,yf4,y5,yf5,y6,yf6,y7,yf7⟩:=DS.c D9;obtain⟨r0,rf0,r1,rf1,r2,rf2,r3,rf3,r4,rf4,r5,rf5,r6,rf6,r7,rf7⟩:=D9.r;rw [HE.out];have qq:=CG s) | (go_at_call 16;have _h:=D4;refine(G0 (w.heap.size+1) s (0+1+1+tb.size+1+co.size+(BC E n).length) I m _ D4.pl (by omega) hV (by omega) hi hr).mono ?_;rintro e w5 ⟨h,cah,rfl,hO5,hP5,hg5⟩;have E5:=D4.gr hg5 hP5;obtain⟨x0,xf0,x1,xf1,x2,xf2,x3,xf3,x4,xf4,x5,xf5,x6,xf6,x7,xf7⟩:=E5.c;have D5:=E5.s6 (σ (ς ⟨h,0,ν⟩) m cah)) | (go_at_call 16;refine(G0 (w.heap.size+1) s (0+1+1+tb.size+1+co.size) E n _ D3.pl (by omega) hY (by omega) hj hq).mono ?_;rintro e w4 ⟨g,cap,rfl,hO4,hP4,hg4⟩;have E4:=D3.gr hg4 hP4;obtain⟨z0,zf0,z1,zf1,z2,zf2,z3,zf3,z4,zf4,z5,zf5,z6,zf6,z7,zf7⟩:=E4.c;have D4:=E4.s5 (σ (ς ⟨g,0,ν⟩) n cap);have B4:=D4.ll;have Z4:=w4.size_setCell ⟨w1.heap.size,5,ν⟩ (σ (ς ⟨g,0,ν⟩) n cap)) | (go_at_call 15;have _h:=D2;refine(Cv (w.heap.size+1) s (0+1+1+tb.size) 1 co _ D2.pl (by omega) (by omega) hC (BZ (by omega) (by omega))).mono ?_;rintro e w3 ⟨rfl,hP3,hg3⟩;have E3:=D2.gr hg3 hP3;obtain⟨u0,uf0,u1,uf1,u2,uf2,u3,uf3,u4,uf4,u5,uf5,u6,uf6,u7,uf7⟩:=E3.c;have D3:=E3.s4 (τ co);have B3:=D3.ll;have Z3:=w3.size_setCell ⟨w1.heap.size,4,ν⟩ (τ co)) | (go_at_call 15;refine(Cv (w.heap.size+1) s (0+1) 1 tb _ D1.pl (by omega) (by omega) hT (BZ (by omega) (by omega))).mono ?_;rintro e w2 ⟨rfl,hP2,hg2⟩;have E2:=D1.gr hg2 hP2;obtain⟨l0,lf0,l1,lf1,l2,lf2,l3,lf3,l4,lf4,l5,lf5,l6,lf6,l7,lf7⟩:=E2.c;have D2:=E2.s1 (τ tb);have B2:=D2.ll;have Z2:=w2.size_setCell ⟨w1.heap.size,1,ν⟩ (τ tb)) | (go_at_call 14;refine hN.mono ?_;rintro e w1 ⟨rfl,hP1,hg1⟩;have B0:=hg1.size;have D1:=DS.new (X:=#[ι κ 3,τ ⟨#[]⟩,σ ν 0 0,σ ν 0 0,τ ⟨#[]⟩,σ ν 0 0,σ ν 0 0,σ ν 0 0]) hz0 hb0 HR0 hg1 hP1;have B1:=D1.lt))
 have B1:=D1.lt;exact VE (v:=θ #[χ (GC ⟨3,tb,0,C,0,V,co,n,E,m,I,0,m7,O⟩ ⟨ν,0,ν,0,ς ⟨g,0,ν⟩,cap,ς ⟨h,0,ν⟩,cah,ν,0⟩),β true]) (AE Tryz.results5 _ _ w.heap.size 34 _ (0,0) _ rfl (D9.fin _ _ _ _ _ _ _ _).1 Tryz.underlying34 rfl (by kernel_rfl)) rfl ⟨⟨ν,0,ν,0,ς ⟨g,0,ν⟩,cap,ς ⟨h,0,ν⟩,cah,ν,0⟩,rfl,HM _ _ _ _ _ _ _ (Eg R4 ((D9.fin _ _ _ _ _ _ _ _).2.2 _) (by omega)) (Eg R5 ((D9.fin _ _ _ _ _ _ _ _).2.2 _) (by omega)),(D9.fin _ _ _ _ _ _ _ _).2.1,VS _⟩
theorem PU{w w':ο}{q:Nat}{r:Option Nat}{o:Obj}(h:w.heap[q]?=ς o)(hg:w.grownBy w' r)(hne:ς q≠r):w'.heap[q]?=ς o:=(hg.block q (VL.1 h).1 hne).trans h
theorem SY{w w':ο}{q B:Nat}{o:Obj}(h:Hid (w.heap[q]?=ς o))(hg:w.grownBy w' (ς B))(hne:q≠B):Hid (w'.heap[q]?=ς o):=EJ h.out hg hne
theorem DS.ownR{w W W':ο}{L:Nat}{r:Option Nat}{X:Array VN}{s:ByteArray}{a:Nat}(h:DS w W L X s a)(hg:W.grownBy W' r)(hr:∀ x,x<=L->ς x≠r):DS w W' L X s a:=
 have hl:=h.lt;⟨PU h.row hg (hr _ (VD _)),PU h.res hg (hr _ (by omega)),PU h.pl hg (hr _ (by omega)),Hw h.be hg (λx hx=>Nat.le_of_not_lt λq=>hr x (by omega) hx.symm),hl⟩
theorem Iy{w w':ο}{base e size n:Nat}{r:Option Nat}{v:VN}{xs:List VN}(h:w.ownsRow base e size v n xs)(hg:w.grownBy w' r)(hne:∀ x,v.ownBlock=ς x->ς x≠r):w'.ownsRow base e size v n xs:=by
 obtain⟨h1,hh⟩:=h;refine⟨h1,?_⟩;rcases hh with hh | ⟨gg,cap',cur,e1,e2,e3,e4⟩
 · exact VV hh
 · exact Vb ⟨gg,cap',cur,e1,e2,PU e3 hg (hne gg (by rw [e1];rfl)),e4⟩
theorem c3{w:ο}{q:Nat}{x y z:VN}{t:TypeId}(h:Hid (w.heap[q]?=ς (γ #[x,y,z] t (0,0)))):w.cell? ⟨q,0,ν⟩=ς x/\w.frozen? ⟨q,0,ν⟩=false/\w.cell? ⟨q,1,ν⟩=ς y/\w.frozen? ⟨q,1,ν⟩=false/\w.cell? ⟨q,2,ν⟩=ς z/\w.frozen? ⟨q,2,ν⟩=false:=
 have k:=λi=>ε _ _ i _ _ _ h.out;have f:=λi=>ζ _ _ i _ _ h.out;⟨(k 0).trans rfl,f 0,(k 1).trans rfl,f 1,(k 2).trans rfl,f 2⟩
theorem ilA{w:ο}{G e cap n:Nat}{a:Option Addr}{I:Nat->Itm}(h:w.ownsRow G e 3 (σ a n cap) n (BU (λk=>v3 (I k)) n))(hs:∀ k,k<n->(I k).s.size<=1048576):IL w a n I:=by
 have h':=h;rcases h.2 with ⟨e,q⟩ | ⟨g,cap',cur,e,h2⟩
 · subst q;exact OB _ _ _
 ·
  simp only [Value.slice.injEq,true_and] at e
  obtain⟨rfl,rfl⟩:=e;exact Ry h' hs
theorem RJ{i:Itm}(h:Aa i.o i.m i.s=true)(hr:GK i.m):(∃ m,i=⟨1,m,⟨#[]⟩⟩/\GK m)∨∃ t,i=⟨2,0,t⟩/\t.size<=200:=by
 obtain⟨o,m,t⟩:=i;simp only [Aa,Bool.or_eq_true,VO,decide_eq_true_eq,beq_iff_eq] at h
 rcases h with ⟨⟨rfl,h1⟩,h2⟩ | ⟨⟨rfl,rfl⟩,h2⟩
 · obtain rfl:=Fu h2;exact .inl ⟨m,rfl,hr⟩
 · exact .inr ⟨t,rfl,EL h2⟩
theorem SQ(tb:ByteArray)(C:Nat->Clm)(n:Nat)(V E I:Nat->Itm)(m7:Nat->Nat)(O:Nat->Nat->Itm)(s:ByteArray)(w:ο)(hs:s.size<=60000)(hs0:0<s.size)(hA:At s 0 (AX 1 2 ++ s8 tb ++ (AX 1 n ++ Aj (λj=>Bo (V j)) n)))(ht:tb.size<=30)(hn:n<=20)(hi:∀ j,j<n->Aa (V j).o (V j).m (V j).s=true)(hr:∀ j,j<n->GK (V j).m)(hE:CT ⟨2,tb,0,C,n,V,⟨#[]⟩,0,E,0,I,0,m7,O⟩=s) :
 VK μ 5 #[τ s] w λe w'=>∃ p,e=ρ (θ #[χ (GC ⟨2,tb,0,C,n,V,⟨#[]⟩,0,E,0,I,0,m7,O⟩ p),β true])/\SM w' ⟨2,tb,0,C,n,V,⟨#[]⟩,0,E,0,I,0,m7,O⟩ p/\υ w.heap.size w w'/\(⟨2,tb,0,C,n,V,⟨#[]⟩,0,E,0,I,0,m7,O⟩:St).n2<=p.c2:=by
 have t1:¬(60000:Int)<s.size:=by omega
 have t0:s.toList.isEmpty=false:=by rw [NA];exact decide_eq_false (by omega)
 obtain⟨hz0,hb0,HR0,hP0⟩:=Ok w s;have hN:=Bw (w.heap.size+1) s 0 1 2 _ hP0 (by omega) (by omega) hA.left.left (BZ (by omega) (by omega));have hT:=hA.left.right;have hX:=hA.right;rw [AH] at hT;rw [VJ,AH,BP,show 0+(1+(1+tb.size))=0+1+1+tb.size by omega] at hX;have hN3:=hX.left;have HR:=hX.right;rw [AH] at HR;have HT:=Ek HR;have HS:∀ j,0+1+1+tb.size+1+(Aj (λk=>Bo (V k)) (j+1)).length=0+1+1+tb.size+1+(Aj (λk=>Bo (V k)) j).length+(Bo (V j)).length:=λj=>by rw [Aj,VJ];omega
 obtain⟨Q,hQ⟩:∃ Q:Nat->Nat,(λj=>0+1+1+tb.size+1+(Aj (λk=>Bo (V k)) j).length)=Q:=⟨_,rfl⟩;have HQ:∀ j,0+1+1+tb.size+1+(Aj (λk=>Bo (V k)) j).length=Q j:=λj=>congrFun hQ j;have H0:0+1+1+tb.size+1=Q 0:=HQ 0;simp only [HQ] at HT HS
 have HH:Hid ((∀ j,j<n->At s (Q j) (Bo (V j)))/\(∀ j,Q (j+1)=Q j+(Bo (V j)).length)/\0+1+1+tb.size+1=Q 0):=⟨HT,HS,H0⟩;clear HQ hQ HT HS H0 HR hX;have HE:Hid (CT ⟨2,tb,0,C,n,V,⟨#[]⟩,0,E,0,I,0,m7,O⟩=s):=hE;clear hE;have hI:∀ j,j<n->(V j).s.size<=1048576:=λj hj=>by have:=Eh (hi j hj);omega
 have HM:∀ (W:ο) (G:Nat) (a:Option Addr) (cap:Nat),W.ownsRow G 60 3 (σ a n cap) n (BU (λk=>v3 (V k)) n)->SM W ⟨2,tb,0,C,n,V,⟨#[]⟩,0,E,0,I,0,m7,O⟩ ⟨ν,0,a,cap,ν,0,ν,0,ν,0⟩:=λW G a cap h=>⟨by show tb.size<=_;omega,VS _,Tt _ _ _,ilA h hI,OB _ _ _,OB _ _ _,Ss _ _ _ _,VS _,by show n<=_;omega,VS _,VS _,VS _⟩;obtain⟨i0,hi0,hz0',hz1,hz2⟩:=info_parts Tryz.infoVal;have HI:Hid (Tryz.prog.info? 60=ς i0):=hi0;clear hi0;obtain⟨X,hX⟩:∃ X:Nat->List VN,(λj=>BU (λk=>v3 (V k)) j)=X:=⟨_,rfl⟩;have HX:Hid (X 0=[]/\(∀ j,X (j+1)=X j ++ v3 (V j))/\∀ j,BU (λk=>v3 (V k)) j=X j):=⟨by rw [←hX];rfl,λj=>by rw [←hX];exact Bs _ _,λj=>congrFun hX j⟩;clear hX;go_enter Tryz.func5,Tryz.ntmps5
 go_wp2_with (first | (go_at_call 14;have _h:=D2;refine(Bw (w.heap.size+1) s (0+1+1+tb.size) 1 n _ D2.pl (by omega) (by omega) hN3 (BZ (by omega) (by omega))).mono ?_;rintro e w3 ⟨rfl,hP3,hg3⟩;have D3:=D2.gr hg3 hP3;have B3:=D3.ll) | (go_at_call 15;refine(Cv (w.heap.size+1) s (0+1) 1 tb _ D1.pl (by omega) (by omega) hT (BZ (by omega) (by omega))).mono ?_;rintro e w2 ⟨rfl,hP2,hg2⟩;have E2:=D1.gr hg2 hP2;obtain⟨l0,lf0,l1,lf1,l2,lf2,l3,lf3,l4,lf4,l5,lf5,l6,lf6,l7,lf7⟩:=E2.c;have D2:=E2.s1 (τ tb);have B2:=D2.ll;have Z2:=w2.size_setCell ⟨w1.heap.size,1,ν⟩ (τ tb)) | (go_at_call 14;refine hN.mono ?_;rintro e w1 ⟨rfl,hP1,hg1⟩;have B0:=hg1.size;have D1:=DS.new (X:=#[ι κ 2,τ ⟨#[]⟩,σ ν 0 0,σ ν 0 0,τ ⟨#[]⟩,σ ν 0 0,σ ν 0 0,σ ν 0 0]) hz0 hb0 HR0 hg1 hP1;have B1:=D1.lt))
 go_loopw [10,11] (λi _ wr=>∃ (j:Nat) (a:Option Addr) (cap:Nat),j<=n/\i=ι κ j/\DS w wr w1.heap.size #[ι κ 2,τ tb,σ ν 0 0,σ a j cap,τ ⟨#[]⟩,σ ν 0 0,σ ν 0 0,σ ν 0 0] s (Q j)/\wr.ownsRow w3.heap.size 60 3 (σ a j cap) j (X j)/\w3.heap.size<=wr.heap.size) (λi _ _=>n - (VQ i).toNat)
 case atStart=>exact⟨0,ν,0,by omega,rfl,by rw [←HH.out.2.2];exact D3,by rw [HX.out.1];exact⟨rfl,VV ⟨rfl,rfl⟩⟩,VD _⟩
 case round=>
  obtain⟨j,a,cap,hj,rfl,DR,hO,hG⟩:=hrel;by_cases hlj:j<n
  rotate_left
  ·
   obtain rfl:j=n:=by omega
   obtain⟨x0,xf0,x1,xf1,x2,xf2,x3,xf3,x4,xf4,x5,xf5,x6,xf6,x7,xf7⟩:=DR.c;have Q3:=hO;rw [←HX.out.2.2] at Q3;go_wp2_with ((go_at_call 17;have _h:=DR;skip;refine(Ks ⟨2,tb,0,C,j,V,⟨#[]⟩,0,E,0,I,0,m7,O⟩ ⟨ν,0,a,cap,ν,0,ν,0,ν,0⟩ _ (HM _ _ _ _ Q3)).mono ?_;rintro e w9 ⟨rfl,hb9⟩;have D9:=DR.later hb9;have Q9:=AF Q3 hb9;obtain⟨y0,yf0,y1,yf1,y2,yf2,y3,yf3,y4,yf4,y5,yf5,y6,yf6,y7,yf7⟩:=DS.c D9;obtain⟨r0,rf0,r1,rf1,r2,rf2,r3,rf3,r4,rf4,r5,rf5,r6,rf6,r7,rf7⟩:=D9.r;rw [HE.out];have qq:=CG s))
   exact VE (v:=θ #[χ (GC ⟨2,tb,0,C,j,V,⟨#[]⟩,0,E,0,I,0,m7,O⟩ ⟨ν,0,a,cap,ν,0,ν,0,ν,0⟩),β true]) (AE Tryz.results5 _ _ w.heap.size 34 _ (0,0) _ rfl (D9.fin _ _ _ _ _ _ _ _).1 Tryz.underlying34 rfl (by kernel_rfl)) rfl ⟨⟨ν,0,a,cap,ν,0,ν,0,ν,0⟩,rfl,HM _ _ _ _ (Eg Q9 ((D9.fin _ _ _ _ _ _ _ _).2.2 _) (by omega)),(D9.fin _ _ _ _ _ _ _ _).2.1,VS _⟩
  have hA:=HH.out.1 j hlj;have HQ:Hid (Q (j+1)=Q j+(Bo (V j)).length):=HH.out.2.1 j;have HNX:Hid (X (j+1)=X j ++ v3 (V j)):=HX.out.2.1 j;have hk:=hi j hlj;have hkr:=hr j hlj;obtain⟨q,hq⟩:∃ q,Q j=q:=⟨_,rfl⟩;rw [hq] at hA HQ DR;clear hq;obtain⟨i,hii⟩:∃ i,V j=i:=⟨_,rfl⟩;rw [hii] at hA HQ HNX hk hkr;clear hii;have hnb:∀ x,x<=w1.heap.size->ς x≠(σ a j cap).ownBlock:=λx hx e=>by have:=(hO.lt x e.symm).1;omega
  have how:∀ x,(σ a j cap).ownBlock=ς x->x<wr.heap.size:=λx e=>(hO.lt x e).2;rcases RJ hk hkr with ⟨m,rfl,hm⟩ | ⟨t,rfl,htt⟩
  ·
   have hrr:=hA.right;rw [AH] at hrr;have HE2:Hid (q+(Bo ⟨1,m,⟨#[]⟩⟩).length=q+1+8):=by show _=_;simp only [Bo,VJ,AH];simp only [if_true,AH]
   simp only [if_true] at hrr
   clear hk hkr;go_wp2_with (first | (go_at_call 14;have _h:=D4;refine(Bw (w.heap.size+1) s (q+1) 8 m _ D4.pl (by omega) (by omega) hrr (NC hm.1 hm.2)).mono ?_;rintro e w5 ⟨rfl,hP5,hg5⟩;have hs5:=hg5.size;have E5:=D4.gr hg5 hP5;obtain⟨z0,zf0,z1,zf1,z2,zf2⟩:=c3 (SY HV4 hg5 (by omega));obtain⟨x0,xf0,x1,xf1,x2,xf2,x3,xf3,x4,xf4,x5,xf5,x6,xf6,x7,xf7⟩:=E5.c;have D5:=E5.own (Ai w5 w4.heap.size 1 (ι κ m)) (by omega);obtain⟨u0,uf0,u1,uf1,u2,uf2,u3,uf3,u4,uf4,u5,uf5,u6,uf6,u7,uf7⟩:=D5.c;have hO5:=Iy (AS hO4 hg5 (by omega)) (Ai w5 w4.heap.size 1 (ι κ m)) (λx e e2=>by have q1:=how x e;have q2:x=w4.heap.size:=(VF e2);omega);have hsW:(w5.setCell ⟨w4.heap.size,1,ν⟩ (ι κ m)).heap.size=w5.heap.size:=(by simp);have HNX2:=VI (η (w5.setCell ⟨w4.heap.size,1,ν⟩ (ι κ m)) (γ ([ι κ 1,ι κ m,τ ⟨#[]⟩]).toArray 60));rw [hsW] at HNX2) | (go_at_call 14;refine(Bw (w.heap.size+1) s q 1 1 _ DR.pl (by omega) (by omega) hA.left (BZ (by omega) (by omega))).mono ?_;rintro e w4 ⟨rfl,hP4,hg4⟩;have D4:=(DR.gr hg4 hP4).later (AD w4 (γ #[ι κ 1,ι κ 0,τ ⟨#[]⟩] 60));have hO4:=(AS hO hg4 (by omega)).alloc (γ #[ι κ 1,ι κ 0,τ ⟨#[]⟩] 60);have HV4:Hid ((w4.alloc (γ #[ι κ 1,ι κ 0,τ ⟨#[]⟩] 60)).heap[w4.heap.size]?=ς (γ #[ι κ 1,ι κ 0,τ ⟨#[]⟩] 60 (0,0))):=η w4 _;have hs4:=hg4.size;have hsA:(w4.alloc (γ #[ι κ 1,ι κ 0,τ ⟨#[]⟩] 60)).heap.size=w4.heap.size+1:=(by simp);have hnV:w1.heap.size≠w4.heap.size:=(by omega)) | (at_builtin;refine VR _ rfl _ _ _ rfl w3.heap.size 60 i0 (χ #[ι κ 0,ι κ 0,τ VG]) 3 32 Tryz.underlying30 HI.out hz0' hz1 hz2 rfl (by omega) (σ a j cap) j _ rfl (hO5.alloc _) ⟨w5.heap.size,0,ν⟩ 1 1 [ι κ 1,ι κ m,τ ⟨#[]⟩] rfl rfl HNX2 (by intro u hu;simp at hu;rcases hu with rfl | rfl | rfl <;> rfl) (by omega) (by unfold maxLen;omega) (by omega) (by simp;omega) _ rfl ?_;intro g6 cap6 w6 hO6 hgr6 hat6 hlt6;have hs6:=hgr6.size;have D6:=(D5.later (AD _ (γ ([ι κ 1,ι κ m,τ ⟨#[]⟩]).toArray 60))).ownR hgr6 hnb;obtain⟨y0,yf0,y1,yf1,y2,yf2,y3,yf3,y4,yf4,y5,yf5,y6,yf6,y7,yf7⟩:=D6.c))
   have D7:=D6.s3 (σ (ς ⟨g6,0,ν⟩) (j+1) cap6);have hO7:=AS hO6 (Ai w6 w1.heap.size 3 (σ (ς ⟨g6,0,ν⟩) (j+1) cap6)) (by omega);have hs7:=w6.size_setCell ⟨w1.heap.size,3,ν⟩ (σ (ς ⟨g6,0,ν⟩) (j+1) cap6);have hsB:=((w5.setCell ⟨w4.heap.size,1,ν⟩ (ι κ m))).size_alloc (γ ([ι κ 1,ι κ m,τ ⟨#[]⟩]).toArray 60);rw [←HE2.out,←HQ.out] at D7;go_roundw
   case rel=>first | exact⟨j+1,_,_,by omega,by go_num,D7,by rw [HNX.out];exact hO7,by omega⟩ | ((repeat apply Exists.intro);exact⟨⟨j+1,_,_,by omega,by go_num,D7,by rw [HNX.out];exact hO7,by omega⟩,rfl⟩)
   case measure=>simp [VQ];omega
  ·
   have hrr:=hA.right;rw [AH] at hrr;have HE2:Hid (q+(Bo ⟨2,0,t⟩).length=q+1+2+t.size):=by show _=_;simp [Bo,EI,AH];omega
   replace hrr:At s (q+1) (AX 2 t.size ++ t.data.toList):=hrr;clear hk hkr;go_wp2_with (first | (go_at_call 15;have _h:=D4;refine(Cv (w.heap.size+1) s (q+1) 2 t _ D4.pl (by omega) (by omega) hrr (Kl (by omega) (by omega))).mono ?_;rintro e w5 ⟨rfl,hP5,hg5⟩;have hs5:=hg5.size;have E5:=D4.gr hg5 hP5;obtain⟨z0,zf0,z1,zf1,z2,zf2⟩:=c3 (SY HV4 hg5 (by omega));obtain⟨x0,xf0,x1,xf1,x2,xf2,x3,xf3,x4,xf4,x5,xf5,x6,xf6,x7,xf7⟩:=E5.c;have D5:=E5.own (Ai w5 w4.heap.size 2 (τ t)) (by omega);obtain⟨u0,uf0,u1,uf1,u2,uf2,u3,uf3,u4,uf4,u5,uf5,u6,uf6,u7,uf7⟩:=D5.c;have hO5:=Iy (AS hO4 hg5 (by omega)) (Ai w5 w4.heap.size 2 (τ t)) (λx e e2=>by have q1:=how x e;have q2:x=w4.heap.size:=(VF e2);omega);have hsW:(w5.setCell ⟨w4.heap.size,2,ν⟩ (τ t)).heap.size=w5.heap.size:=(by simp);have HNX2:=VI (η (w5.setCell ⟨w4.heap.size,2,ν⟩ (τ t)) (γ ([ι κ 2,ι κ 0,τ t]).toArray 60));rw [hsW] at HNX2) | (go_at_call 14;refine(Bw (w.heap.size+1) s q 1 2 _ DR.pl (by omega) (by omega) hA.left (BZ (by omega) (by omega))).mono ?_;rintro e w4 ⟨rfl,hP4,hg4⟩;have D4:=(DR.gr hg4 hP4).later (AD w4 (γ #[ι κ 2,ι κ 0,τ ⟨#[]⟩] 60));have hO4:=(AS hO hg4 (by omega)).alloc (γ #[ι κ 2,ι κ 0,τ ⟨#[]⟩] 60);have HV4:Hid ((w4.alloc (γ #[ι κ 2,ι κ 0,τ ⟨#[]⟩] 60)).heap[w4.heap.size]?=ς (γ #[ι κ 2,ι κ 0,τ ⟨#[]⟩] 60 (0,0))):=η w4 _;have hs4:=hg4.size;have hsA:(w4.alloc (γ #[ι κ 2,ι κ 0,τ ⟨#[]⟩] 60)).heap.size=w4.heap.size+1:=(by simp);have hnV:w1.heap.size≠w4.heap.size:=(by omega)) | (at_builtin;refine VR _ rfl _ _ _ rfl w3.heap.size 60 i0 (χ #[ι κ 0,ι κ 0,τ VG]) 3 32 Tryz.underlying30 HI.out hz0' hz1 hz2 rfl (by omega) (σ a j cap) j _ rfl (hO5.alloc _) ⟨w5.heap.size,0,ν⟩ 1 1 [ι κ 2,ι κ 0,τ t] rfl rfl HNX2 (by intro u hu;simp at hu;rcases hu with rfl | rfl | rfl <;> rfl) (by omega) (by unfold maxLen;omega) (by omega) (by simp;omega) _ rfl ?_;intro g6 cap6 w6 hO6 hgr6 hat6 hlt6;have hs6:=hgr6.size;have D6:=(D5.later (AD _ (γ ([ι κ 2,ι κ 0,τ t]).toArray 60))).ownR hgr6 hnb;obtain⟨y0,yf0,y1,yf1,y2,yf2,y3,yf3,y4,yf4,y5,yf5,y6,yf6,y7,yf7⟩:=D6.c))
   have D7:=D6.s3 (σ (ς ⟨g6,0,ν⟩) (j+1) cap6);have hO7:=AS hO6 (Ai w6 w1.heap.size 3 (σ (ς ⟨g6,0,ν⟩) (j+1) cap6)) (by omega);have hs7:=w6.size_setCell ⟨w1.heap.size,3,ν⟩ (σ (ς ⟨g6,0,ν⟩) (j+1) cap6);have hsB:=((w5.setCell ⟨w4.heap.size,2,ν⟩ (τ t))).size_alloc (γ ([ι κ 2,ι κ 0,τ t]).toArray 60);rw [←HE2.out,←HQ.out] at D7;go_roundw
   case rel=>first | exact⟨j+1,_,_,by omega,by go_num,D7,by rw [HNX.out];exact hO7,by omega⟩ | ((repeat apply Exists.intro);exact⟨⟨j+1,_,_,by omega,by go_num,D7,by rw [HNX.out];exact hO7,by omega⟩,rfl⟩)
   case measure=>simp [VQ];omega
abbrev Si:Oper:=⟨ς 41,.load 29 (δ 40),29,"l4_stm.go:247",#[⟨0,φ⟩],ν⟩
abbrev UO:Oper:=⟨ς 44,.call ⟨.value (.func 14),#[δ 43,.const (ι κ 1)],#[52,3]⟩,3,"l4_stm.go:247",#[⟨3,φ⟩],ν⟩
abbrev UN:Oper:=⟨ς 46,.buildSlice 29 1 #[(0,δ 45)],29,"l4_stm.go:247",#[⟨5,φ⟩],ν⟩
theorem Uj{w:ο}{B e size n cap:Nat}{a:Option Addr}{xs:List VN}(h:w.ownsRow B e size (σ a n cap) n xs):n<=cap:=by
 rcases h.2 with ⟨e1,e2⟩ | ⟨g,cap',cur,e1,_,_,h4,_⟩
 · simp at e1;omega
 · simp at e1;omega
theorem U7{w:ο}{G cap n:Nat}{a:Option Addr}{C:Nat->Clm}(h:w.ownsRow G 58 2 (σ a n cap) n (BU (λk=>c2 (C k)) n))(hs:∀ k,k<n->(C k).s.size<=1048576):CL w a n C:=by
 have h':=h;rcases h.2 with ⟨e,q⟩ | ⟨g,cap',cur,e,h2⟩
 · subst q;exact Tt _ _ _
 ·
  simp only [Value.slice.injEq,true_and] at e
  obtain⟨rfl,rfl⟩:=e;exact I0 h' hs
theorem SR(tb:ByteArray)(n:Nat)(C:Nat->Clm)(V E I:Nat->Itm)(m7:Nat->Nat)(O:Nat->Nat->Itm)(s:ByteArray)(w:ο)(hs:s.size<=60000)(hs0:0<s.size)(hA:At s 0 (AX 1 1 ++ s8 tb ++ (AX 1 n ++ Aj (λj=>DX (C j)) n)))(ht:tb.size<=30)(hn:n<=20)(hi:∀ j,j<n->BI (C j).s (C j).t=true)(hE:CT ⟨1,tb,n,C,0,V,⟨#[]⟩,0,E,0,I,0,m7,O⟩=s) :
 VK μ 5 #[τ s] w λe w'=>∃ p,e=ρ (θ #[χ (GC ⟨1,tb,n,C,0,V,⟨#[]⟩,0,E,0,I,0,m7,O⟩ p),β true])/\SM w' ⟨1,tb,n,C,0,V,⟨#[]⟩,0,E,0,I,0,m7,O⟩ p/\υ w.heap.size w w'/\(⟨1,tb,n,C,0,V,⟨#[]⟩,0,E,0,I,0,m7,O⟩:St).n2<=p.c2:=by
 have t1:¬(60000:Int)<s.size:=by omega
 have t0:s.toList.isEmpty=false:=by rw [NA];exact decide_eq_false (by omega)
 obtain⟨hz0,hb0,HR0,hP0⟩:=Ok w s;have hN:=Bw (w.heap.size+1) s 0 1 1 _ hP0 (by omega) (by omega) hA.left.left (BZ (by omega) (by omega));have hT:=hA.left.right;have hX:=hA.right;rw [AH] at hT;rw [VJ,AH,BP,show 0+(1+(1+tb.size))=0+1+1+tb.size by omega] at hX;have hN3:=hX.left;have HR:=hX.right;rw [AH] at HR;have HT:=Ek HR;have HS:∀ j,0+1+1+tb.size+1+(Aj (λk=>DX (C k)) (j+1)).length=0+1+1+tb.size+1+(Aj (λk=>DX (C k)) j).length+(DX (C j)).length:=λj=>by rw [Aj,VJ];omega
 obtain⟨Q,hQ⟩:∃ Q:Nat->Nat,(λj=>0+1+1+tb.size+1+(Aj (λk=>DX (C k)) j).length)=Q:=⟨_,rfl⟩;have HQ:∀ j,0+1+1+tb.size+1+(Aj (λk=>DX (C k)) j).length=Q j:=λj=>congrFun hQ j;have H0:0+1+1+tb.size+1=Q 0:=HQ 0;simp only [HQ] at HT HS
 have HH:Hid ((∀ j,j<n->At s (Q j) (DX (C j)))/\(∀ j,Q (j+1)=Q j+(DX (C j)).length)/\0+1+1+tb.size+1=Q 0):=⟨HT,HS,H0⟩;clear HQ hQ HT HS H0 HR hX;have HE:Hid (CT ⟨1,tb,n,C,0,V,⟨#[]⟩,0,E,0,I,0,m7,O⟩=s):=hE;clear hE;have hI:∀ j,j<n->(C j).s.size<=30/\0<=(C j).t/\(C j).t<256:=λj hj=>by
  have q:=hi j hj;simp only [BI,VO] at q
  have q1:=Bb q.1;have q2:=q.2;simp [C9] at q2
  omega
 clear hi;have HM:∀ (W:ο) (G:Nat) (a:Option Addr) (cap:Nat),W.ownsRow G 58 2 (σ a n cap) n (BU (λk=>c2 (C k)) n)->SM W ⟨1,tb,n,C,0,V,⟨#[]⟩,0,E,0,I,0,m7,O⟩ ⟨a,cap,ν,0,ν,0,ν,0,ν,0⟩:=λW G a cap h=>⟨by show tb.size<=_;omega,VS _,U7 h λk hk=>VX (hI k hk).1 (by omega),OB _ _ _,OB _ _ _,OB _ _ _,Ss _ _ _ _,by show n<=_;omega,VS _,VS _,VS _,VS _⟩;obtain⟨i0,hi0,hz0',hz1,hz2⟩:=info_parts Tryz.infoCol;have HI:Hid (Tryz.prog.info? 58=ς i0):=hi0;clear hi0;obtain⟨X,hX⟩:∃ X:Nat->List VN,(λj=>BU (λk=>c2 (C k)) j)=X:=⟨_,rfl⟩;have HX:Hid (X 0=[]/\(∀ j,X (j+1)=X j ++ c2 (C j))/\∀ j,BU (λk=>c2 (C k)) j=X j):=⟨by rw [←hX];rfl,λj=>by rw [←hX];exact Bs _ _,λj=>congrFun hX j⟩;clear hX;go_enter Tryz.func5,Tryz.ntmps5
 go_wp2_with (first | (go_at_call 14;have _h:=D2;refine(Bw (w.heap.size+1) s (0+1+1+tb.size) 1 n _ D2.pl (by omega) (by omega) hN3 (BZ (by omega) (by omega))).mono ?_;rintro e w3 ⟨rfl,hP3,hg3⟩;have D3:=D2.gr hg3 hP3;have B3:=D3.ll) | (go_at_call 15;refine(Cv (w.heap.size+1) s (0+1) 1 tb _ D1.pl (by omega) (by omega) hT (BZ (by omega) (by omega))).mono ?_;rintro e w2 ⟨rfl,hP2,hg2⟩;have E2:=D1.gr hg2 hP2;obtain⟨l0,lf0,l1,lf1,l2,lf2,l3,lf3,l4,lf4,l5,lf5,l6,lf6,l7,lf7⟩:=E2.c;have D2:=E2.s1 (τ tb);have B2:=D2.ll;have Z2:=w2.size_setCell ⟨w1.heap.size,1,ν⟩ (τ tb)) | (go_at_call 14;refine hN.mono ?_;rintro e w1 ⟨rfl,hP1,hg1⟩;have B0:=hg1.size;have D1:=DS.new (X:=#[ι κ 1,τ ⟨#[]⟩,σ ν 0 0,σ ν 0 0,τ ⟨#[]⟩,σ ν 0 0,σ ν 0 0,σ ν 0 0]) hz0 hb0 HR0 hg1 hP1;have B1:=D1.lt))
 go_loopw [7,8] (λi _ wr=>∃ (j:Nat) (a:Option Addr) (cap:Nat),j<=n/\i=ι κ j/\DS w wr w1.heap.size #[ι κ 1,τ tb,σ a j cap,σ ν 0 0,τ ⟨#[]⟩,σ ν 0 0,σ ν 0 0,σ ν 0 0] s (Q j)/\wr.ownsRow w3.heap.size 58 2 (σ a j cap) j (X j)/\w3.heap.size<=wr.heap.size) (λi _ _=>n - (VQ i).toNat)
 case atStart=>exact⟨0,ν,0,by omega,rfl,by rw [←HH.out.2.2];exact D3,by rw [HX.out.1];exact⟨rfl,VV ⟨rfl,rfl⟩⟩,VD _⟩
 case round=>
  obtain⟨j,a,cap,hj,rfl,DR,hO,hG⟩:=hrel;by_cases hlj:j<n
  rotate_left
  ·
   obtain rfl:j=n:=by omega
   obtain⟨x0,xf0,x1,xf1,x2,xf2,x3,xf3,x4,xf4,x5,xf5,x6,xf6,x7,xf7⟩:=DR.c;have Q3:=hO;rw [←HX.out.2.2] at Q3;go_wp2_with ((go_at_call 17;have _h:=DR;skip;refine(Ks ⟨1,tb,j,C,0,V,⟨#[]⟩,0,E,0,I,0,m7,O⟩ ⟨a,cap,ν,0,ν,0,ν,0,ν,0⟩ _ (HM _ _ _ _ Q3)).mono ?_;rintro e w9 ⟨rfl,hb9⟩;have D9:=DR.later hb9;have Q9:=AF Q3 hb9;obtain⟨y0,yf0,y1,yf1,y2,yf2,y3,yf3,y4,yf4,y5,yf5,y6,yf6,y7,yf7⟩:=DS.c D9;obtain⟨r0,rf0,r1,rf1,r2,rf2,r3,rf3,r4,rf4,r5,rf5,r6,rf6,r7,rf7⟩:=D9.r;rw [HE.out];have qq:=CG s))
   exact VE (v:=θ #[χ (GC ⟨1,tb,j,C,0,V,⟨#[]⟩,0,E,0,I,0,m7,O⟩ ⟨a,cap,ν,0,ν,0,ν,0,ν,0⟩),β true]) (AE Tryz.results5 _ _ w.heap.size 34 _ (0,0) _ rfl (D9.fin _ _ _ _ _ _ _ _).1 Tryz.underlying34 rfl (by kernel_rfl)) rfl ⟨⟨a,cap,ν,0,ν,0,ν,0,ν,0⟩,rfl,HM _ _ _ _ (Eg Q9 ((D9.fin _ _ _ _ _ _ _ _).2.2 _) (by omega)),(D9.fin _ _ _ _ _ _ _ _).2.1,Uj Q9⟩
  have hA:=HH.out.1 j hlj;have HQ:Hid (Q (j+1)=Q j+(DX (C j)).length):=HH.out.2.1 j;have HNX:Hid (X (j+1)=X j ++ c2 (C j)):=HX.out.2.1 j;have hk:=hI j hlj;obtain⟨q,hq⟩:∃ q,Q j=q:=⟨_,rfl⟩;rw [hq] at hA HQ DR;clear hq;obtain⟨c,hcc⟩:∃ c,C j=c:=⟨_,rfl⟩;rw [hcc] at hA HQ HNX hk;clear hcc;obtain⟨nm,ty⟩:=c;dsimp only at hk
  have hA1:At s q (AX 1 nm.size ++ nm.data.toList):=hA.left;have hA2:=hA.right;rw [BP,←Nat.add_assoc] at hA2;have HE2:Hid (q+(DX ⟨nm,ty⟩).length=q+1+nm.size+1):=by show _=_;simp only [DX,VJ,BP,AH];omega
  have hnb:∀ x,x<=w1.heap.size->ς x≠(σ a j cap).ownBlock:=λx hx e=>by have:=(hO.lt x e.symm).1;omega
  go_upto_region 13 with (go_at_call 15;refine(Cv (w.heap.size+1) s q 1 nm _ DR.pl (by omega) (by omega) hA1 (BZ (by omega) (by omega))).mono ?_;rintro e w4 ⟨rfl,hP4,hg4⟩;have hs4:=hg4.size;have D4:=(DR.gr hg4 hP4).later (Hq w4);have hO4:=AF (AS hO hg4 (by omega)) (Hq w4))
  have hs4d:w4.drew.heap.size=w4.heap.size:=rfl;have hNv:=Bw (w.heap.size+1) s (q+1+nm.size) 1 ty _ D4.pl (by omega) (by omega) hA2 (BZ (by omega) (by omega));have l2:=D4.c.2.2.2.2.1;refine VH (S:=λ_=>True) (by kernel_rfl) trivial (λjH=>?_);refine tk 0 (v:=ψ (ς ⟨w1.heap.size,2,ν⟩)) jH ?_
  refine tk 2 (v:=τ nm) jH ?_
  refine tk 3 (v:=ψ (ς ⟨w.heap.size+1,0,ν⟩)) jH ?_;try simp only [zS]
  refine wpAnyH_ready (rs:=[1,4]) (by kernel_rfl) (by simp) ?_;refine AllReadyH.cons (o:=Si) rfl (λK hK=>?_) (AllReadyH.cons (o:=UO) rfl (λK hK=>?_) AllReadyH.nil);go_simp;refine hK.out _ _ trivial (λjH=>?_);clear hK K;try simp only [zS]
  refine rd 4 (λK hK=>?_);go_simp;refine(hNv).mono ?_;rintro e w5 ⟨rfl,hP5,hg5⟩;have hs5:=hg5.size;have D5:=D4.gr hg5 hP5;have hO5:=AS hO4 hg5 (by omega);have l25:=D5.c.2.2.2.2.1;have hs5a:(w5.alloc (γ #[τ nm,ι κ ty] 58)).heap.size=w5.heap.size+1:=(by simp);have D5a:=D5.later (AD w5 (γ #[τ nm,ι κ ty] 58));have l25a:=D5a.c.2.2.2.2.1;refine hK.out _ _ trivial (λjH=>?_);clear hK K;try simp only [zS]
  refine tk 5 (v:=χ #[τ nm,ι κ ty]) jH ?_;try simp only [zS]
  refine rd 6 (λK hK=>?_);go_simp;refine hK.out _ _ trivial (λjH=>?_);clear hK K;try simp only [zS]
  refine rd 7 (λK hK=>?_);rw [if_pos (by kernel_rfl)];refine wp_append_lies _ _ _ _ rfl w3.heap.size 58 i0 (χ #[τ VG,ι κ 0]) 2 24 Tryz.underlying29 HI.out hz0' hz1 hz2 rfl (by omega) (σ a j cap) j _ rfl (hO5.alloc _) ⟨w5.heap.size,0,ν⟩ 1 1 [τ nm,ι κ ty] rfl rfl (VI (η w5 _)) (by intro u hu;simp at hu;rcases hu with rfl | rfl <;> rfl) (by omega) (by unfold maxLen;omega) (by omega) (by simp;omega) _ rfl ?_;intro g6 cap6 w6 hO6 hgr6 hat6 hlt6;have hs6:=hgr6.size;have D6:=D5a.ownR hgr6 hnb;have l26:=D6.c.2.2.2.2.1;have lf26:=D6.c.2.2.2.2.2.1;refine hK.out _ _ trivial (λjH=>?_);clear hK K;try simp only [zS]
  refine tk 8 (v:=ψ (ς ⟨w1.heap.size,2,ν⟩)) jH ?_;try simp only [zS]
  refine rd 9 (λK hK=>?_);go_simp;refine hK.out _ _ trivial (λjH=>?_);clear hK K;try simp only [zS]
  refine VP (by kernel_rfl) ?_ _;rotate_left;go_simp;refine(hNv).mono ?_;rintro e w5 ⟨rfl,hP5,hg5⟩;have hs5:=hg5.size;have D5:=D4.gr hg5 hP5;have hO5:=AS hO4 hg5 (by omega);have l25:=D5.c.2.2.2.2.1;have hs5a:(w5.alloc (γ #[τ nm,ι κ ty] 58)).heap.size=w5.heap.size+1:=(by simp);have D5a:=D5.later (AD w5 (γ #[τ nm,ι κ ty] 58));have l25a:=D5a.c.2.2.2.2.1;refine hK.out _ _ trivial (λjH=>?_);clear hK K;try simp only [zS]
  refine tk 5 (v:=χ #[τ nm,ι κ ty]) jH ?_;try simp only [zS]
  refine wpAnyH_ready (rs:=[1,6]) (by kernel_rfl) (by simp) ?_;refine AllReadyH.cons (o:=Si) rfl (λK hK=>?_) (AllReadyH.cons (o:=UN) rfl (λK hK=>?_) AllReadyH.nil);go_simp;refine hK.out _ _ trivial (λjH=>?_);clear hK K;try simp only [zS]
  refine rd 6 (λK hK=>?_);go_simp;refine hK.out _ _ trivial (λjH=>?_);clear hK K;try simp only [zS]
  refine rd 7 (λK hK=>?_);rw [if_pos (by kernel_rfl)];refine wp_append_lies _ _ _ _ rfl w3.heap.size 58 i0 (χ #[τ VG,ι κ 0]) 2 24 Tryz.underlying29 HI.out hz0' hz1 hz2 rfl (by omega) (σ a j cap) j _ rfl (hO5.alloc _) ⟨w5.heap.size,0,ν⟩ 1 1 [τ nm,ι κ ty] rfl rfl (VI (η w5 _)) (by intro u hu;simp at hu;rcases hu with rfl | rfl <;> rfl) (by omega) (by unfold maxLen;omega) (by omega) (by simp;omega) _ rfl ?_;intro g6 cap6 w6 hO6 hgr6 hat6 hlt6;have hs6:=hgr6.size;have D6:=D5a.ownR hgr6 hnb;have l26:=D6.c.2.2.2.2.1;have lf26:=D6.c.2.2.2.2.2.1;refine hK.out _ _ trivial (λjH=>?_);clear hK K;try simp only [zS]
  refine tk 8 (v:=ψ (ς ⟨w1.heap.size,2,ν⟩)) jH ?_;try simp only [zS]
  refine rd 9 (λK hK=>?_);go_simp;refine hK.out _ _ trivial (λjH=>?_);clear hK K;try simp only [zS]
  refine VP (by kernel_rfl) ?_ _;rotate_left;go_simp;refine hK.out _ _ trivial (λjH=>?_);clear hK K;try simp only [zS]
  refine rd 1 (λK hK=>?_);go_simp;refine hK.out _ _ trivial (λjH=>?_);clear hK K;try simp only [zS]
  refine rd 7 (λK hK=>?_);rw [if_pos (by kernel_rfl)];refine wp_append_lies _ _ _ _ rfl w3.heap.size 58 i0 (χ #[τ VG,ι κ 0]) 2 24 Tryz.underlying29 HI.out hz0' hz1 hz2 rfl (by omega) (σ a j cap) j _ rfl (hO5.alloc _) ⟨w5.heap.size,0,ν⟩ 1 1 [τ nm,ι κ ty] rfl rfl (VI (η w5 _)) (by intro u hu;simp at hu;rcases hu with rfl | rfl <;> rfl) (by omega) (by unfold maxLen;omega) (by omega) (by simp;omega) _ rfl ?_;intro g6 cap6 w6 hO6 hgr6 hat6 hlt6;have hs6:=hgr6.size;have D6:=D5a.ownR hgr6 hnb;have l26:=D6.c.2.2.2.2.1;have lf26:=D6.c.2.2.2.2.2.1;refine hK.out _ _ trivial (λjH=>?_);clear hK K;try simp only [zS]
  refine tk 8 (v:=ψ (ς ⟨w1.heap.size,2,ν⟩)) jH ?_;try simp only [zS]
  refine rd 9 (λK hK=>?_);go_simp;refine hK.out _ _ trivial (λjH=>?_);clear hK K;try simp only [zS]
  refine VP (by kernel_rfl) ?_ _;rotate_left;all_goals
   have D7:=D6.s2 (σ (ς ⟨g6,0,ν⟩) (j+1) cap6);have hO7:=AS hO6 (Ai w6 w1.heap.size 2 (σ (ς ⟨g6,0,ν⟩) (j+1) cap6)) (by omega);have hs7:=w6.size_setCell ⟨w1.heap.size,2,ν⟩ (σ (ς ⟨g6,0,ν⟩) (j+1) cap6);rw [←HE2.out,←HQ.out] at D7;clear jH;go_wp2;go_roundw
   case rel=>exact⟨j+1,_,_,by omega,by go_num,D7,by rw [HNX.out];exact hO7,by omega⟩
   case measure=>simp [VQ];omega
abbrev Sh:Oper:=⟨ς 102,.load 32 (δ 101),32,"l4_stm.go:269",#[⟨0,φ⟩],ν⟩
abbrev UM:Oper:=⟨ς 104,.call ⟨.value (.func 16),#[δ 103],#[52]⟩,31,"l4_stm.go:269",#[⟨2,φ⟩],ν⟩
abbrev UL:Oper:=⟨ς 105,.buildSlice 32 1 #[(0,δ 104)],32,"l4_stm.go:269",#[⟨3,φ⟩],ν⟩
theorem Tryz.infoRowI:(Tryz.prog.info? 31).map (λi=>(i.zero,i.size,i.bytes))=ς (ς (σ ν 0 0),1,24):=by kernel_rfl
def xC(m:Nat->Nat)(X:Nat->Nat×Nat)(i:Nat):List VN:=[σ (ς ⟨(X i).1,0,ν⟩) (m i) (X i).2]
theorem U4{w:ο}{G cap n:Nat}{a:Option Addr}{m:Nat->Nat}{O:Nat->Nat->Itm}{X:Nat->Nat×Nat}(h:w.ownsRow G 31 1 (σ a n cap) n (BU (xC m X) n))(hx:∀ i,i<n->IL w (ς ⟨(X i).1,0,ν⟩) (m i) (O i))(hm:∀ i,i<n->m i<=1048576):OL w a n m O:=by
 have h':=h;rcases h.2 with ⟨e,q⟩ | ⟨g,cap',cur,e,h2⟩
 · subst q;exact Ss _ _ _ _
 ·
  simp only [Value.slice.injEq,true_and] at e
  obtain⟨rfl,rfl⟩:=e;intro k hk;refine⟨g,0,ς ⟨(X k).1,0,ν⟩,(X k).2,rfl,?_,hx k hk,hm k hk⟩;have:=(h'.cellAt (k * 1+0) (by omega)).trans (EP (sz:=1) (λ_ _=>rfl) hk (by omega));rw [VM];rw [Nat.mul_one,Vf] at this;exact this
theorem Nn{w:ο}{base base' e size n:Nat}{v:VN}{xs:List VN}(h:w.ownsRow base e size v n xs)(hb:base'<=base):w.ownsRow base' e size v n xs:=by
 obtain⟨hl,hh⟩:=h;refine⟨hl,?_⟩;rcases hh with hh | ⟨gg,cap,cur,e1,e2,e3,e4⟩
 · exact VV hh
 · exact Vb ⟨gg,cap,cur,e1,VX hb e2,e3,e4⟩
def XO(w:ο)(G:Nat)(x:Nat×Nat)(n:Nat)(I:Nat->Itm):Prop:=w.ownsRow G 42 3 (σ (ς ⟨x.1,0,ν⟩) n x.2) n (BU (λk=>v3 (I k)) n)
def xu(X:Nat->Nat×Nat)(j:Nat)(x:Nat×Nat)(i:Nat):Nat×Nat:=if i=j then x else X i
theorem Qf(m:Nat->Nat)(X:Nat->Nat×Nat)(j:Nat)(x:Nat×Nat):BU (xC m (xu X j x)) (j+1)=BU (xC m X) j ++ [σ (ς ⟨x.1,0,ν⟩) (m j) x.2]:=by
 rw [Bs];congr 1
 · exact Dy λk hk=>by simp only [xC,xu,if_neg (show ¬k=j by omega)]
 · simp only [xC,xu,if_true]
theorem Qg{w:ο}{G j:Nat}{m:Nat->Nat}{O:Nat->Nat->Itm}{X:Nat->Nat×Nat}{x:Nat×Nat}{b:Option Nat}(h:∀ i,i<j->XO w G (X i) (m i) (O i)/\ς (X i).1≠b)(hx:XO w G x (m j) (O j)/\ς x.1≠b):∀ i,i<j+1->XO w G (xu X j x i) (m i) (O i)/\ς (xu X j x i).1≠b:=λi hi=>by
 unfold xu;by_cases e:i=j
 · subst e;rw [if_pos rfl];exact hx
 · rw [if_neg e];exact h i (by omega)
theorem SJ(tb:ByteArray)(C:Nat->Clm)(V E:Nat->Itm)(m:Nat)(I:Nat->Itm)(n:Nat)(m7:Nat->Nat)(O:Nat->Nat->Itm)(s:ByteArray)(w:ο)(hs:s.size<=60000)(hs0:0<s.size)(hA:At s 0 (AX 1 5 ++ s8 tb ++ ((AX 1 n ++ Aj (λj=>BC (O j) (m7 j)) n) ++ BC I m)))(ht:tb.size<=30)(hn:n<=20)(hm:m<=100)(hm7:∀ j,j<n->m7 j<=100)(hj:∀ k,k<n->∀ j,j<m7 k->Aq (O k j).o (O k j).m (O k j).s=true)(hq:∀ k,k<n->∀ j,j<m7 k->GK (O k j).m)(hi:∀ j,j<m->Aq (I j).o (I j).m (I j).s=true)(hr:∀ j,j<m->GK (I j).m)(hE:CT ⟨5,tb,0,C,0,V,⟨#[]⟩,0,E,m,I,n,m7,O⟩=s) :
 VK μ 5 #[τ s] w λe w'=>∃ p,e=ρ (θ #[χ (GC ⟨5,tb,0,C,0,V,⟨#[]⟩,0,E,m,I,n,m7,O⟩ p),β true])/\SM w' ⟨5,tb,0,C,0,V,⟨#[]⟩,0,E,m,I,n,m7,O⟩ p/\υ w.heap.size w w'/\(⟨5,tb,0,C,0,V,⟨#[]⟩,0,E,m,I,n,m7,O⟩:St).n2<=p.c2:=by
 have t1:¬(60000:Int)<s.size:=by omega
 have t0:s.toList.isEmpty=false:=by rw [NA];exact decide_eq_false (by omega)
 obtain⟨hz0,hb0,HR0,hP0⟩:=Ok w s;have hN:=Bw (w.heap.size+1) s 0 1 5 _ hP0 (by omega) (by omega) hA.left.left (BZ (by omega) (by omega));have hT:=hA.left.right;have hX:=hA.right;rw [AH] at hT;rw [VJ,AH,BP,show 0+(1+(1+tb.size))=0+1+1+tb.size by omega] at hX;have hN3:=hX.left.left;have HW:=hX.right;rw [VJ,AH,←Nat.add_assoc] at HW;have HR:=hX.left.right;rw [AH] at HR;have HT:=Ek HR;have HS:∀ j,0+1+1+tb.size+1+(Aj (λk=>BC (O k) (m7 k)) (j+1)).length=0+1+1+tb.size+1+(Aj (λk=>BC (O k) (m7 k)) j).length+(BC (O j) (m7 j)).length:=λj=>by rw [Aj,VJ];omega
 obtain⟨Q,hQ⟩:∃ Q:Nat->Nat,(λj=>0+1+1+tb.size+1+(Aj (λk=>BC (O k) (m7 k)) j).length)=Q:=⟨_,rfl⟩;have HQ:∀ j,0+1+1+tb.size+1+(Aj (λk=>BC (O k) (m7 k)) j).length=Q j:=λj=>congrFun hQ j;have H0:0+1+1+tb.size+1=Q 0:=HQ 0;simp only [HQ] at HT HS HW
 have HH:Hid ((∀ j,j<n->At s (Q j) (BC (O j) (m7 j)))/\(∀ j,Q (j+1)=Q j+(BC (O j) (m7 j)).length)/\0+1+1+tb.size+1=Q 0/\At s (Q n) (BC I m)):=⟨HT,HS,H0,HW⟩;clear HQ hQ HT HS H0 HR hX HW;have HE:Hid (CT ⟨5,tb,0,C,0,V,⟨#[]⟩,0,E,m,I,n,m7,O⟩=s):=hE;clear hE;have hI:∀ j,j<m->(I j).s.size<=1048576:=λj hj=>by have:=Cm (hi j hj);omega
 have hJ:∀ k,k<n->∀ j,j<m7 k->(O k j).s.size<=1048576:=λk hk j hj'=>by have:=Cm (hj k hk j hj');omega
 have HM:∀ (W:ο) (G:Nat) (a:Option Addr) (cap:Nat) (X:Nat->Nat×Nat) (H h cah:Nat),W.ownsRow G 31 1 (σ a n cap) n (BU (xC m7 X) n)->(∀ i,i<n->XO W G (X i) (m7 i) (O i))->W.ownsRow H 42 3 (σ (ς ⟨h,0,ν⟩) m cah) m (BU (λk=>v3 (I k)) m)->SM W ⟨5,tb,0,C,0,V,⟨#[]⟩,0,E,m,I,n,m7,O⟩ ⟨ν,0,ν,0,ν,0,ς ⟨h,0,ν⟩,cah,a,cap⟩:=λW G a cap X H h cah p q r=>⟨by show tb.size<=_;omega,VS _,Tt _ _ _,OB _ _ _,OB _ _ _,Ry r hI,U4 p (λi hi=>Ry (q i hi) (hJ i hi)) λi hi=>VX (hm7 i hi) (by omega),VS _,VS _,VS _,by show m<=_;omega,by show n<=_;omega⟩;obtain⟨i0,hi0,hz0',hz1,hz2⟩:=info_parts Tryz.infoRowI;have HI:Hid (Tryz.prog.info? 31=ς i0):=hi0;clear hi0;go_enter Tryz.func5,Tryz.ntmps5
 go_wp2_with (first | (go_at_call 14;have _h:=D2;refine(Bw (w.heap.size+1) s (0+1+1+tb.size) 1 n _ D2.pl (by omega) (by omega) hN3 (BZ (by omega) (by omega))).mono ?_;rintro e w3 ⟨rfl,hP3,hg3⟩;have D3:=D2.gr hg3 hP3;have B3:=D3.ll) | (go_at_call 15;refine(Cv (w.heap.size+1) s (0+1) 1 tb _ D1.pl (by omega) (by omega) hT (BZ (by omega) (by omega))).mono ?_;rintro e w2 ⟨rfl,hP2,hg2⟩;have E2:=D1.gr hg2 hP2;obtain⟨l0,lf0,l1,lf1,l2,lf2,l3,lf3,l4,lf4,l5,lf5,l6,lf6,l7,lf7⟩:=E2.c;have D2:=E2.s1 (τ tb);have B2:=D2.ll;have Z2:=w2.size_setCell ⟨w1.heap.size,1,ν⟩ (τ tb)) | (go_at_call 14;refine hN.mono ?_;rintro e w1 ⟨rfl,hP1,hg1⟩;have B0:=hg1.size;have D1:=DS.new (X:=#[ι κ 5,τ ⟨#[]⟩,σ ν 0 0,σ ν 0 0,τ ⟨#[]⟩,σ ν 0 0,σ ν 0 0,σ ν 0 0]) hz0 hb0 HR0 hg1 hP1;have B1:=D1.lt))
 go_loopw [13] (λi wr=>∃ (j:Nat) (a:Option Addr) (cap:Nat) (X:Nat->Nat×Nat),j<=n/\i=ι κ j/\DS w wr w1.heap.size #[ι κ 5,τ tb,σ ν 0 0,σ ν 0 0,τ ⟨#[]⟩,σ ν 0 0,σ ν 0 0,σ a j cap] s (Q j)/\wr.ownsRow w3.heap.size 31 1 (σ a j cap) j (BU (xC m7 X) j)/\(∀ i,i<j->XO wr w3.heap.size (X i) (m7 i) (O i)/\ς (X i).1≠(σ a j cap).ownBlock)/\w3.heap.size<=wr.heap.size) (λi _=>n - (VQ i).toNat)
 case atStart=>exact⟨0,ν,0,λ_=>(0,0),by omega,rfl,by rw [←HH.out.2.2.1];exact D3,⟨rfl,VV ⟨rfl,rfl⟩⟩,λi hi=>by omega,VD _⟩
 case round=>
  obtain⟨j,a,cap,X,hjn,rfl,DR,hO,hXs,hG⟩:=hrel;have HXs:Hid (∀ i,i<j->XO wr w3.heap.size (X i) (m7 i) (O i)/\ς (X i).1≠(σ a j cap).ownBlock):=hXs;clear hXs;by_cases hlj:j<n
  rotate_left
  ·
   obtain rfl:j=n:=by omega
   obtain⟨x0,xf0,x1,xf1,x2,xf2,x3,xf3,x4,xf4,x5,xf5,x6,xf6,x7,xf7⟩:=DR.c;go_wp2_with (first | (go_at_call 17;have _h:=D4;have Q3:=AS (AS hO hg4 (by omega)) (Ai w4 w1.heap.size 6 (σ (ς ⟨h,0,ν⟩) m cah)) (by omega);have Q4:=AS hO4 (Ai w4 w1.heap.size 6 (σ (ς ⟨h,0,ν⟩) m cah)) (by omega);have QX:∀ i,i<j->XO _ _ (X i) (m7 i) (O i):=(λi hi=>AS (AS (HXs.out i hi).1 hg4 (by omega)) (Ai w4 w1.heap.size 6 (σ (ς ⟨h,0,ν⟩) m cah)) (by omega));refine(Ks ⟨5,tb,0,C,0,V,⟨#[]⟩,0,E,m,I,j,m7,O⟩ ⟨ν,0,ν,0,ν,0,ς ⟨h,0,ν⟩,cah,a,cap⟩ _ (HM _ _ _ _ X _ _ _ Q3 QX Q4)).mono ?_;rintro e w9 ⟨rfl,hb9⟩;have D9:=D4.later hb9;have R3:=AF Q3 hb9;have R4:=AF Q4 hb9;have RX:Hid (∀ i,i<j->XO w9 w3.heap.size (X i) (m7 i) (O i)):=(λi hi=>AF (QX i hi) hb9);clear QX;obtain⟨y0,yf0,y1,yf1,y2,yf2,y3,yf3,y4,yf4,y5,yf5,y6,yf6,y7,yf7⟩:=DS.c D9;obtain⟨r0,rf0,r1,rf1,r2,rf2,r3,rf3,r4,rf4,r5,rf5,r6,rf6,r7,rf7⟩:=D9.r;rw [HE.out];have qq:=CG s) | (go_at_call 16;refine(G0 (w.heap.size+1) s (Q j) I m _ DR.pl (by omega) HH.out.2.2.2 (by omega) hi hr).mono ?_;rintro e w4 ⟨h,cah,rfl,hO4,hP4,hg4⟩;have E4:=DR.gr hg4 hP4;obtain⟨z0,zf0,z1,zf1,z2,zf2,z3,zf3,z4,zf4,z5,zf5,z6,zf6,z7,zf7⟩:=E4.c;have D4:=E4.s6 (σ (ς ⟨h,0,ν⟩) m cah)))
   exact VE (v:=θ #[χ (GC ⟨5,tb,0,C,0,V,⟨#[]⟩,0,E,m,I,j,m7,O⟩ ⟨ν,0,ν,0,ν,0,ς ⟨h,0,ν⟩,cah,a,cap⟩),β true]) (AE Tryz.results5 _ _ w.heap.size 34 _ (0,0) _ rfl (D9.fin _ _ _ _ _ _ _ _).1 Tryz.underlying34 rfl (by kernel_rfl)) rfl ⟨⟨ν,0,ν,0,ν,0,ς ⟨h,0,ν⟩,cah,a,cap⟩,rfl,HM _ _ _ _ X _ _ _ (Eg R3 ((D9.fin _ _ _ _ _ _ _ _).2.2 _) (by omega)) (λi hi=>Eg (RX.out i hi) ((D9.fin _ _ _ _ _ _ _ _).2.2 _) (by omega)) (Eg R4 ((D9.fin _ _ _ _ _ _ _ _).2.2 _) (by omega)),(D9.fin _ _ _ _ _ _ _ _).2.1,VS _⟩
  have HQ:Hid (Q (j+1)=Q j+(BC (O j) (m7 j)).length):=HH.out.2.1 j;have hnb:∀ x,x<=w1.heap.size->ς x≠(σ a j cap).ownBlock:=λx hx e=>by have:=(hO.lt x e.symm).1;omega
  have how:∀ x,(σ a j cap).ownBlock=ς x->x<wr.heap.size:=λx e=>(hO.lt x e).2;go_upto_region 35 with (fail)
  have DD:=DR.later (Hq wr);have hOd:=AF hO (Hq wr);have hsd:wr.drew.heap.size=wr.heap.size:=rfl;have hEu:=G0 (w.heap.size+1) s (Q j) (O j) (m7 j) _ DD.pl (by omega) (HH.out.1 j hlj) (hm7 j hlj) (hj j hlj) (hq j hlj);have l7:=DD.c.2.2.2.2.2.2.2.2.2.2.2.2.2.2.1;refine VH (S:=λ_=>True) (by kernel_rfl) trivial (λjH=>?_);refine tk 0 (v:=ψ (ς ⟨w1.heap.size,7,ν⟩)) jH ?_
  refine tk 2 (v:=ψ (ς ⟨w.heap.size+1,0,ν⟩)) jH ?_;try simp only [zS]
  refine wpAnyH_ready (rs:=[1,3]) (by kernel_rfl) (by simp) ?_;refine AllReadyH.cons (o:=Sh) rfl (λK hK=>?_) (AllReadyH.cons (o:=UM) rfl (λK hK=>?_) AllReadyH.nil);go_simp;refine hK.out _ _ trivial (λjH=>?_);clear hK K;try simp only [zS]
  refine rd 3 (λK hK=>?_);go_simp;refine(hEu).mono ?_;rintro e w5 ⟨g2,cap2,rfl,hL2,hP5,hg5⟩;have hs5:=hg5.size;have D5:=DD.gr hg5 hP5;have hO5:=AS hOd hg5 (by omega);have l75:=D5.c.2.2.2.2.2.2.2.2.2.2.2.2.2.2.1;have hs5a:(w5.alloc (γ #[σ (ς ⟨g2,0,ν⟩) (m7 j) cap2] 31)).heap.size=w5.heap.size+1:=(by simp);have D5a:=D5.later (AD w5 (γ #[σ (ς ⟨g2,0,ν⟩) (m7 j) cap2] 31));have l75a:=D5a.c.2.2.2.2.2.2.2.2.2.2.2.2.2.2.1;have hg2:=hL2.lt g2 rfl;refine hK.out _ _ trivial (λjH=>?_);clear hK K;try simp only [zS]
  refine rd 4 (λK hK=>?_);go_simp;refine hK.out _ _ trivial (λjH=>?_);clear hK K;try simp only [zS]
  refine rd 5 (λK hK=>?_);rw [if_pos (by kernel_rfl)];refine wp_append_lies _ _ _ _ rfl w3.heap.size 31 i0 (σ ν 0 0) 1 24 Tryz.underlying32 HI.out hz0' hz1 hz2 rfl (by omega) (σ a j cap) j _ rfl (hO5.alloc _) ⟨w5.heap.size,0,ν⟩ 1 1 [σ (ς ⟨g2,0,ν⟩) (m7 j) cap2] rfl rfl (VI (η w5 _)) (by intro u hu;simp at hu;subst hu;rfl) (by omega) (by unfold maxLen;omega) (by omega) (by simp;omega) _ rfl ?_;intro g6 cap6 w6 hO6 hgr6 hat6 hlt6;have hs6:=hgr6.size;have D6:=D5a.ownR hgr6 hnb;have l76:=D6.c.2.2.2.2.2.2.2.2.2.2.2.2.2.2.1;have lf76:=D6.c.2.2.2.2.2.2.2.2.2.2.2.2.2.2.2;refine hK.out _ _ trivial (λjH=>?_);clear hK K;try simp only [zS]
  refine tk 6 (v:=ψ (ς ⟨w1.heap.size,7,ν⟩)) jH ?_;try simp only [zS]
  refine rd 7 (λK hK=>?_);go_simp;refine hK.out _ _ trivial (λjH=>?_);clear hK K;try simp only [zS]
  refine VP (by kernel_rfl) ?_ _;rotate_left;go_simp;refine(hEu).mono ?_;rintro e w5 ⟨g2,cap2,rfl,hL2,hP5,hg5⟩;have hs5:=hg5.size;have D5:=DD.gr hg5 hP5;have hO5:=AS hOd hg5 (by omega);have l75:=D5.c.2.2.2.2.2.2.2.2.2.2.2.2.2.2.1;have hs5a:(w5.alloc (γ #[σ (ς ⟨g2,0,ν⟩) (m7 j) cap2] 31)).heap.size=w5.heap.size+1:=(by simp);have D5a:=D5.later (AD w5 (γ #[σ (ς ⟨g2,0,ν⟩) (m7 j) cap2] 31));have l75a:=D5a.c.2.2.2.2.2.2.2.2.2.2.2.2.2.2.1;have hg2:=hL2.lt g2 rfl;refine hK.out _ _ trivial (λjH=>?_);clear hK K;try simp only [zS]
  refine wpAnyH_ready (rs:=[1,4]) (by kernel_rfl) (by simp) ?_;refine AllReadyH.cons (o:=Sh) rfl (λK hK=>?_) (AllReadyH.cons (o:=UL) rfl (λK hK=>?_) AllReadyH.nil);go_simp;refine hK.out _ _ trivial (λjH=>?_);clear hK K;try simp only [zS]
  refine rd 4 (λK hK=>?_);go_simp;refine hK.out _ _ trivial (λjH=>?_);clear hK K;try simp only [zS]
  refine rd 5 (λK hK=>?_);rw [if_pos (by kernel_rfl)];refine wp_append_lies _ _ _ _ rfl w3.heap.size 31 i0 (σ ν 0 0) 1 24 Tryz.underlying32 HI.out hz0' hz1 hz2 rfl (by omega) (σ a j cap) j _ rfl (hO5.alloc _) ⟨w5.heap.size,0,ν⟩ 1 1 [σ (ς ⟨g2,0,ν⟩) (m7 j) cap2] rfl rfl (VI (η w5 _)) (by intro u hu;simp at hu;subst hu;rfl) (by omega) (by unfold maxLen;omega) (by omega) (by simp;omega) _ rfl ?_;intro g6 cap6 w6 hO6 hgr6 hat6 hlt6;have hs6:=hgr6.size;have D6:=D5a.ownR hgr6 hnb;have l76:=D6.c.2.2.2.2.2.2.2.2.2.2.2.2.2.2.1;have lf76:=D6.c.2.2.2.2.2.2.2.2.2.2.2.2.2.2.2;refine hK.out _ _ trivial (λjH=>?_);clear hK K;try simp only [zS]
  refine tk 6 (v:=ψ (ς ⟨w1.heap.size,7,ν⟩)) jH ?_;try simp only [zS]
  refine rd 7 (λK hK=>?_);go_simp;refine hK.out _ _ trivial (λjH=>?_);clear hK K;try simp only [zS]
  refine VP (by kernel_rfl) ?_ _;rotate_left;go_simp;refine hK.out _ _ trivial (λjH=>?_);clear hK K;try simp only [zS]
  refine rd 1 (λK hK=>?_);go_simp;refine hK.out _ _ trivial (λjH=>?_);clear hK K;try simp only [zS]
  refine rd 5 (λK hK=>?_);rw [if_pos (by kernel_rfl)];refine wp_append_lies _ _ _ _ rfl w3.heap.size 31 i0 (σ ν 0 0) 1 24 Tryz.underlying32 HI.out hz0' hz1 hz2 rfl (by omega) (σ a j cap) j _ rfl (hO5.alloc _) ⟨w5.heap.size,0,ν⟩ 1 1 [σ (ς ⟨g2,0,ν⟩) (m7 j) cap2] rfl rfl (VI (η w5 _)) (by intro u hu;simp at hu;subst hu;rfl) (by omega) (by unfold maxLen;omega) (by omega) (by simp;omega) _ rfl ?_;intro g6 cap6 w6 hO6 hgr6 hat6 hlt6;have hs6:=hgr6.size;have D6:=D5a.ownR hgr6 hnb;have l76:=D6.c.2.2.2.2.2.2.2.2.2.2.2.2.2.2.1;have lf76:=D6.c.2.2.2.2.2.2.2.2.2.2.2.2.2.2.2;refine hK.out _ _ trivial (λjH=>?_);clear hK K;try simp only [zS]
  refine tk 6 (v:=ψ (ς ⟨w1.heap.size,7,ν⟩)) jH ?_;try simp only [zS]
  refine rd 7 (λK hK=>?_);go_simp;refine hK.out _ _ trivial (λjH=>?_);clear hK K;try simp only [zS]
  refine VP (by kernel_rfl) ?_ _;rotate_left;all_goals
   have D7:=D6.s7 (σ (ς ⟨g6,0,ν⟩) (j+1) cap6);have GS:=Ai w6 w1.heap.size 7 (σ (ς ⟨g6,0,ν⟩) (j+1) cap6);have hO7:=AS hO6 GS (by omega);have hs7:=w6.size_setCell ⟨w1.heap.size,7,ν⟩ (σ (ς ⟨g6,0,ν⟩) (j+1) cap6);rw [←HQ.out] at D7;have KP:∀ (x:Nat×Nat) (k:Nat) (F:Nat->Itm),XO w5 w3.heap.size x k F->x.1<w5.heap.size->ς x.1≠(σ a j cap).ownBlock->XO (w6.setCell ⟨w1.heap.size,7,ν⟩ (σ (ς ⟨g6,0,ν⟩) (j+1) cap6)) w3.heap.size x k F/\ς x.1≠(σ (ς ⟨g6,0,ν⟩) (j+1) cap6).ownBlock:=λx k F h1 h2 h3=>by
    refine⟨AS (Iy (AF h1 (AD w5 (γ #[σ (ς ⟨g2,0,ν⟩) (m7 j) cap2] 31))) hgr6 (λy e=>by have e':x.1=y:=VF e;rw [←e'];exact h3)) GS (by omega),λe=>?_⟩;have e':x.1=g6:=VF e;rcases hat6 with e6 | e6
    · exact h3 (by rw [e'];exact e6.symm)
    · omega
   have HX7:Hid (∀ i,i<j+1->XO (w6.setCell ⟨w1.heap.size,7,ν⟩ (σ (ς ⟨g6,0,ν⟩) (j+1) cap6)) w3.heap.size (xu X j (g2,cap2) i) (m7 i) (O i)/\ς (xu X j (g2,cap2) i).1≠(σ (ς ⟨g6,0,ν⟩) (j+1) cap6).ownBlock):=
    Qg (λi hi=>by
     obtain⟨h1,h2⟩:=HXs.out i hi;have h3:=(World.ownsRow.lt h1 (X i).1 rfl).2;exact KP _ _ _ (AS (AF h1 (Hq wr)) hg5 (by omega)) (by omega) h2) (KP (g2,cap2) _ _ (Nn hL2 (by omega)) hg2.2 (λe=>by have:=how g2 e.symm;have:=hg2.1;omega))
   clear jH KP;go_wp2;go_roundw
   case rel=>exact⟨j+1,_,_,xu X j (g2,cap2),by omega,by go_num,D7,by rw [Qf];exact hO7,HX7.out,by omega⟩
   case measure=>simp [VQ];omega
theorem Og{d:St}{s:ByteArray}(h:CT d=s)(hs:0<s.size):AK d=true/\At s 0 (DI d)/\s.size<=60000:=by
 unfold CT at h;rcases hok:AK d
 ·
  rw [hok] at h;simp at h
  subst h;exact absurd hs (by decide)
 ·
  rw [hok,if_pos rfl] at h;split at h
  · subst h;exact absurd hs (by decide)
  ·
   subst h;have:=Rr (bs (DI d));unfold bs at this ⊢;simp only at this
   exact⟨rfl,this,by rename_i q;unfold bs at q;omega⟩
theorem To{I:Nat->Itm}:∀ {n:Nat} {d:Int},ex I n=ς d->∀ j,j<n->Aq (I j).o (I j).m (I j).s=true:=by
 intro n;induction n with
 | zero=>intro d _ j hj;omega
 | succ n ih=>
  intro d h j hj;rw [ex] at h;split at h
  · cases h
  ·
   rename_i x hx
   split at h
   ·
    rename_i hc
    by_cases e:j=n
    · subst e;exact hc.1
    · exact ih hx j (by omega)
   · cases h
theorem LH{I:Nat->Itm}{n:Nat}(h:AZ I n=true):∀ j,j<n->Aq (I j).o (I j).m (I j).s=true:=by
 simp only [AZ,VO,decide_eq_true_eq] at h
 exact To h.2
theorem ND{I:Nat->Itm}{n:Nat}(h:AI I n=true):∀ j,j<n->Aq (I j).o (I j).m (I j).s=true:=by
 simp only [AI,Bool.or_eq_true,decide_eq_true_eq] at h
 rcases h with rfl | h
 · exact λj hj=>by omega
 · exact LH h
theorem O2{a b:Nat}{s:ByteArray}{c e f:Nat}(h:Bh a b s c e f=true):a=0/\b=0/\s=⟨#[]⟩/\c=0/\e=0/\f=0:=by
 simp only [Bh,VO,decide_eq_true_eq,beq_iff_eq] at h
 refine⟨by omega,by omega,Fu (by omega),by omega,by omega,by omega⟩
theorem UE(d:St)(s:ByteArray)(w:ο)(hr:RG d)(he:CT d=s)(h0:0<s.size) :
 VK μ 5 #[τ s] w λe w'=>∃ p,e=ρ (θ #[χ (GC d p),β true])/\SM w' d p/\υ w.heap.size w w'/\d.n2<=p.c2:=by
 obtain⟨hok,hA,hs⟩:=Og he h0;have htb:=DN hok;have hk:=Lh hok;obtain⟨k,tb,n2,C,n3,V,col,n5,E,n6,W,n7,m7,O⟩:=d;obtain⟨r1,r2,r3,r4⟩:=hr;unfold DI GI at hA;dsimp only at hk hA htb r1 r2 r3 r4
 rcases hk with rfl | rfl | rfl | rfl | rfl
 ·
  have h:=hok;have l:=(UX hok rfl).1;rw [NP _ rfl] at h;simp only [VO] at h
  dsimp only at h l
  obtain⟨-,rfl,rfl,rfl,rfl,rfl⟩:=O2 h.2.1;exact SR tb n2 C V E W m7 O s w hs h0 hA htb l (EA h.2.2.2) he
 ·
  have h:=hok;have l:=(UW hok rfl).1;rw [PL _ rfl] at h;simp only [VO] at h
  dsimp only at h l
  obtain⟨rfl,-,rfl,rfl,rfl,rfl⟩:=O2 h.2.1;exact SQ tb C n3 V E W m7 O s w hs h0 hA htb l (EA h.2.2.2) r1 he
 ·
  have h:=hok;have l:=UV hok rfl;rw [PK _ rfl] at h;simp only [VO] at h
  dsimp only at h l
  obtain⟨rfl,rfl,-,-,-,rfl⟩:=O2 h.2.1;exact SN tb C V col n5 E n6 W m7 O s w hs h0 hA htb l.1 l.2.1.1 l.2.2.1 (LH h.2.2.1.2) r2 (ND h.2.2.2) r3 he
 ·
  have h:=hok;have l:=Us hok rfl;rw [PJ _ rfl] at h;simp only [VO] at h
  dsimp only at h l
  obtain⟨rfl,rfl,rfl,rfl,-,rfl⟩:=O2 h.2.1;exact SK tb C V E n6 W m7 O s w hs h0 hA htb l.1 (ND h.2.2) r3 he
 ·
  have h:=hok;have l:=Ur hok rfl;rw [PI _ rfl] at h;simp only [VO] at h
  dsimp only at h l
  obtain⟨rfl,rfl,rfl,rfl,-,-⟩:=O2 h.2.1;exact SJ tb C V E n6 W n7 m7 O s w hs h0 hA htb l.1 l.2.2.1 (λj hj=>(l.2.1 j hj).1) (λk hk=>LH (EA h.2.2.1.2 k hk)) r4 (ND h.2.2.2) r3 he
end Go.Proofs.YtoeencbghldmdaaGreatDoor
namespace Go.Proofs.YtoeencbghldmdaaGreatDoor
open Go.RowKit
set_option maxRecDepth 20000
set_option maxHeartbeats 4000000
theorem Az(g B:Nat)(ca:Option Addr)(cn cc z s:Nat)(w:ο)(h:Cu w g B ca cn cc z s)(hz:z<=1099511627776)(n:Int)(hn:n<=256) :
 VK μ 39 #[ψ (ς ⟨g,0,ν⟩),ι κ n] w λe w'=>∃ (r:Int) (z' s':Nat),e=ρ (ι κ r)/\0<=r/\(r=0∨r<n)/\r<=255/\z'<=z+1/\Cu w' g B ca cn cc z' s'/\w.grownBy w' (ς g):=by
 by_cases h1:n<=1
 ·
  go_enter Tryz.func39,Tryz.ntmps39
  go_wp2;go_ret
  exact⟨0,z,s,rfl,by omega,VV rfl,by omega,by omega,h,⟨rfl,rfl,rfl,VD _,λ_ _ _=>rfl⟩⟩
 ·
  have hne:¬n=0:=by omega
  go_enter Tryz.func39,Tryz.ntmps39
  go_wp2_with (go_at_call 85;refine(Ox g B ca cn cc z s _ h hz).mono ?_;rintro e w1 ⟨r,s1,rfl,hr0,hr1,hC1,hG1⟩)
  go_ret
  have e1:r.tmod n=r % n:=Int.tmod_eq_emod_of_nonneg hr0;have e2:=Int.emod_nonneg r hne;have e3:=Int.emod_lt_of_pos r (by omega:0<n);first
   | exact⟨r.tmod n,z+1,s1,rfl,by omega,Vb (by omega),by omega,by omega,hC1,hG1⟩
   | exact⟨r % n,z+1,s1,rfl,by omega,Vb (by omega),by omega,by omega,hC1,hG1⟩
theorem LP(L:List UInt8)(r:Int)(h0:0<=r)(h1:r<=255):Be L ++ [ι .u8 r]=Be (L ++ [UInt8.ofNat r.toNat]):=by
 simp [Be]
 omega
theorem IA(g B:Nat)(ca:Option Addr)(cn cc z s:Nat)(w:ο)(h:Cu w g B ca cn cc z s)(hz:z<=1000000000000)(hB:B<=w.heap.size)(most:Nat)(hm:most<=40) :
 VK μ 13 #[ψ (ς ⟨g,0,ν⟩),ι κ most] w λe w'=>∃ (T:ByteArray) (z' s':Nat),e=ρ (τ T)/\T.size<=most/\z'<=z+1+most/\Cu w' g B ca cn cc z' s'/\w.grownBy w' (ς g):=by
 obtain⟨i0,hi,hz0,hz1,hz2⟩:=info_parts Tryz.infoB;have HI:Hid (Tryz.prog.info? 5=ς i0):=hi;clear hi;have hlt:=h.lt;have h0:=h.gr (AU w (γ #[] 5) ν) (λ_ h=>by cases h) hB;go_enter Tryz.func13,Tryz.ntmps13
 go_wp2_with (go_at_call 39;refine(Az g B ca cn cc z s _ h0 (by omega) _ (by omega)).mono ?_;rintro e w1 ⟨r,z1,s1,rfl,hr0,hr1,-,hz1',hC1,hG1⟩)
 obtain⟨n,rfl⟩:∃ n:Nat,r=n:=⟨r.toNat,by omega⟩;have hnm:n<=most:=by omega
 have hq1:w1.heap.size ≥ w.heap.size+1:=by have:=hG1.size;simpa using this
 have hG0:w.grownBy w1 (ς g):=AQ (AU w _ _) hG1;have hO1:w1.ownsRow w.heap.size 5 1 (σ (ς ⟨w.heap.size,0,ν⟩) 0 0) 0 []:=AS (World.ownsRow_lit w #[] 0 (VD _) (by simp [maxLen]) rfl) hG1 (by omega);go_loopw [5,7] (λo i wr=>∃ (k:Nat) (L:List UInt8) (gz cap zz ss:Nat),k<=n/\i=ι κ k/\o=σ (ς ⟨gz,0,ν⟩) k cap/\L.length=k/\wr.ownsRow w.heap.size 5 1 (σ (ς ⟨gz,0,ν⟩) k cap) k (Be L)/\Cu wr g B ca cn cc zz ss/\zz<=z+1+k/\w.grownBy wr (ς g)) (λ_ i _=>n - (VQ i).toNat)
 case atStart=>exact⟨0,[],w.heap.size,0,z1,s1,by omega,rfl,rfl,rfl,hO1,hC1,by omega,hG0⟩
 case round=>
  obtain⟨k,L,gz,cap,zz,ss,hk,rfl,rfl,hL,hO,hC,hzz,hG⟩:=hrel;have HL:Hid (L.length=k):=hL;have hgz:=A3 hO;have hwr:=hG.size;by_cases hlt2:k<n
  ·
   clear hL;go_wp2_with (first | (go_at_call 39;refine(Az g B ca cn cc zz ss _ hC (by omega) _ (by omega)).mono ?_;rintro e w2 ⟨y,z2,s2,rfl,hy0,hy1,hy2,hz2',hC2,hG2⟩;have hO2:=AS hO hG2 (by omega);have hs2:=hG2.size;have hC3:=hC2.gr (AU w2 (γ #[ι .u8 y] 5) ν) (λ_ h=>by cases h) (by omega);have ey:y % 256=y:=by omega) | (at_builtin;refine VR _ rfl _ _ _ rfl w.heap.size 5 i0 (ι .u8 0) 1 1 Tryz.underlying22 HI.out hz0 hz1 hz2 rfl (by omega) _ k _ rfl (hO2.alloc _) ⟨w2.heap.size,0,ν⟩ 1 1 [ι .u8 y] rfl rfl (VI (η w2 _)) (Bt _ rfl) (by omega) (by unfold maxLen;omega) (by omega) (by simp;omega) _ rfl ?_;intro g1 cap1 w3 hown1 hgrow hat hlt1))
   go_roundw
   case rel=>exact⟨k+1,L ++ [UInt8.ofNat y.toNat],g1,cap1,z2,s2,by omega,by go_num,rfl,by simp [HL.out],by rw [←LP L y hy0 hy2];simpa using hown1,hC3.gr hgrow (λq hq=>by have e:gz=q:=VF hq;omega) (by simp;omega),by omega,Ch (AQ (AQ hG hG2) (AU w2 _ _)) hgrow (λq hq=>by have e:gz=q:=VF hq;omega)⟩
   case measure=>simp [VQ];omega
  ·
   obtain rfl:k=n:=by omega
   have hc:=KX wr w.heap.size gz cap L (by rw [HL.out];exact hO);rw [HL.out] at hc;clear hL;go_wp2;go_ret
   exact⟨_,zz,ss,rfl,by show L.toArray.size<=most;simp [HL.out];omega,by omega,hC,hG⟩
theorem QG{n:Nat}{L:List ByteArray}{T:ByteArray}(h:∀ U∈L,U.size<=n)(hT:T.size<=n):∀ U∈L ++ [T],U.size<=n:=by
 intro U hU;rcases List.mem_append.1 hU with h1 | h1
 · exact h U h1
 · rw [List.mem_singleton.1 h1];exact hT
theorem FT(L:List ByteArray)(T:ByteArray):L.map τ ++ [τ T]=(L ++ [T]).map τ:=by simp
