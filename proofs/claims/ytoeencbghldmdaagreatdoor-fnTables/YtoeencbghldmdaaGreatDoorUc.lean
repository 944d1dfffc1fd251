import Derived.Test.YtoeencbghldmdaaGreatDoorTf
import Derived.Laws.Cover1
open Go renaming Calls → VK, World → ο, bodyPost_ret → VE, Value → VN, cell_of_row → ε, frozen_of_row → ζ, heap_alloc_new → η, heap_setCell_same → π, results_cell_row → VW
open Go.Ending renaming returned → ρ
open Go.IntKind renaming i64 → κ
open Go.Obj renaming cells → γ
open Go.Op renaming bytesLess → Va
open Go.Proofs.Tryz renaming prog → μ
open Go.RowKit renaming Below → υ, intOf → VQ
open Go.RowKit.Below renaming refl → VT
open Go.Value renaming agg → χ, bool → β, int → ι, slice → σ, string → τ
open List renaming length_append → VJ, length_take → VY
open Nat renaming add_zero → Vf, le_refl → VD
open Option renaming none → ν, some → ς
namespace Go.Proofs.YtoeencbghldmdaaGreatDoor
open Go.RowKit Go.Maps Go.WideMaps
set_option maxRecDepth 20000
set_option maxHeartbeats 8000000
theorem Ld(k:Int)(tb:ByteArray)(n2:Nat)(C:Nat->Clm)(n3:Nat)(V:Nat->Itm)(col:ByteArray)(n5:Nat)(E:Nat->Itm)(n6:Nat)(W:Nat->Itm)(n7:Nat)(m7:Nat->Nat)(O:Nat->Nat->Itm)
 (a2:Option Addr) (c2:Nat) (a3:Option Addr) (c3:Nat) (a5:Option Addr) (c5:Nat) (a6:Option Addr) (c6:Nat) (a7:Option Addr) (c7:Nat) (D:St) (hD:(⟨k,tb,n2,C,n3,V,col,n5,E,n6,W,n7,m7,O⟩:St)=D)
 (w:ο) (h:SM w ⟨k,tb,n2,C,n3,V,col,n5,E,n6,W,n7,m7,O⟩ ⟨a2,c2,a3,c3,a5,c5,a6,c6,a7,c7⟩) :
 VK μ 18 #[χ #[ι κ k,τ tb,σ a2 n2 c2,σ a3 n3 c3,τ col,σ a5 n5 c5,σ a6 n6 c6,σ a7 n7 c7]] w λe w'=>e=ρ (β (AK D))/\υ w.heap.size w w':=by
 have hb0:=AD w (γ #[ι κ k,τ tb,σ a2 n2 c2,σ a3 n3 c3,τ col,σ a5 n5 c5,σ a6 n6 c6,σ a7 n7 c7] 34);have H0:=h.later hb0;have q0:B8 (w.alloc (γ #[ι κ k,τ tb,σ a2 n2 c2,σ a3 n3 c3,τ col,σ a5 n5 c5,σ a6 n6 c6,σ a7 n7 c7] 34)) w.heap.size ⟨k,tb,n2,C,n3,V,col,n5,E,n6,W,n7,m7,O⟩ ⟨a2,c2,a3,c3,a5,c5,a6,c6,a7,c7⟩:=B8.new w ⟨k,tb,n2,C,n3,V,col,n5,E,n6,W,n7,m7,O⟩ ⟨a2,c2,a3,c3,a5,c5,a6,c6,a7,c7⟩ 34;have hE:=NA col;obtain⟨htb,hcol,-,-,-,-,-,-,-,-,-,-⟩:=id h;dsimp only at htb hcol
 have hB:GD D=((k != 1 && (n2:Int) != 0) || (k != 2 && (n3:Int) != 0) || (k != 3 && (!decide (col.size=0) || (n5:Int) != 0)) || (k != 5 && (n7:Int) != 0)):=by rw [←hD];rfl
 have hO1:AK D=(AM tb && !GD D && !(decide (k<3) && (n6:Int) != 0) && BR D):=by rw [←hD];rfl
 have hR1:Hid (k=1->BR D=(Bn n2 1 20 && allN n2 (λj=>BI (C j).s (C j).t))):=λe=>by rw [←hD];simp [BR,e]
 have hR2:Hid (k=2->BR D=(Bn n3 1 20 && allN n3 (λj=>Aa (V j).o (V j).m (V j).s))):=λe=>by rw [←hD];simp [BR,e]
 have hR3:Hid (k=3->BR D=(AM col && AZ E n5 && AI W n6)):=λe=>by rw [←hD];simp [BR,e]
 have hR4:Hid (k=4->BR D=AI W n6):=λe=>by rw [←hD];simp [BR,e]
 have hR5:Hid (k=5->BR D=(Bn n7 1 20 && allN n7 (λj=>AZ (O j) (m7 j)) && AI W n6)):=λe=>by rw [←hD];simp [BR,e]
 have hR0:Hid (¬k=1->¬k=2->¬k=3->¬k=4->¬k=5->BR D=false):=λe1 e2 e3 e4 e5=>by rw [←hD];simp [BR,e1,e2,e3,e4,e5]
 have HB:Hid (GD D=_):=hB;have HO:Hid (AK D=_):=hO1;clear hB hD hO1;go_enter Tryz.func18,Tryz.ntmps18
 go_upto_region 4 with (go_at_call 46;refine(EY _ _ htb).mono ?_;rintro e w1 ⟨rfl,hb1⟩;have H1:=H0.later hb1;have Q1:=q0.later hb1;obtain⟨q0,q1,q2,q3,q4,q5,q6,q7⟩:=id Q1;dsimp only at q0 q1 q2 q3 q4 q5 q6 q7;replace hb1:=hb0.trans (hb1.mono hb0.size);rcases hnm:AM tb)
 ·
  go_ret
  exact⟨AN (by rw [HO.out];simp [hnm]),hb1⟩
 go_cut [0,3,58] (λ_ v3 v wx=>v3=ι κ k/\v=β (GD D)/\wx=w1)
 case first=>
  go_wp2;all_goals go_meet
  all_goals exact⟨by first | rfl | simp [*],congrArg Value.bool (by rw [HB.out];simp [*]),rfl⟩
 case rest=>
  obtain⟨rfl,rfl,rfl⟩:=hcut;obtain⟨-,-,hco,hva,hex,hwh,hou,l2,l3,l5,l6,l7⟩:=id H1;dsimp only at hco hva hex hwh hou l2 l3 l5 l6 l7
  rcases hbad:GD D
  ·
   by_cases hk3:k<3
   ·
    by_cases e6:n6=0
    ·
     subst e6;by_cases e1:k=1
     ·
      subst e1;have HR:Hid (AK D=(Bn n2 1 20 && allN n2 (λj=>BI (C j).s (C j).t))):=by rw [Hid,HO.out,hbad,hR1.out rfl,hnm];simp
      clear hR1 hR2 hR3 hR4 hR5 hR0 HO HB hbad;go_wp2;go_loopw [2,5,73] (λ_ _ i wr=>∃ k:Nat,k<=n2/\i=ι κ k/\(0<k->n2<=20)/\(∀ j,j<k->BI (C j).s (C j).t=true)/\υ wc.heap.size wc wr) (λ_ _ i _=>n2 - (VQ i).toNat)
      case atStart=>exact⟨0,by omega,rfl,λhh=>by omega,λj hj=>by omega,VT _ _⟩
      case round=>
       obtain⟨j,hj,rfl,hm,hall,hb2⟩:=hrel;have t2:=AB hb2 q2;by_cases hlt:j<n2
       ·
        obtain⟨b,off,rfl,d0,d1,hs⟩:=hco.later hb2 j hlt;have t3:=AB (AD wr (γ #[τ (C j).s,ι κ (C j).t] 58)) t2;go_wp2_with (first | (go_at_call 46;refine(EY _ _ hs).mono ?_;rintro e w3 ⟨rfl,hb3⟩;obtain⟨f0,f1⟩:=Lt hb3;replace hb3:=bj hb2 hb3;rcases ho:AM (C j).s) | (go_at_call 47;refine(Lb _ _).mono ?_;rintro e w4 ⟨rfl,rfl⟩;rcases ht:C9 (C j).t))
        all_goals try (go_ret;first | (refine⟨AN (HR.out.trans (EW hlt ?_)).symm,hb1.trans (hb3.mono hb1.size)⟩;first | (right;omega) | (left;simp [BI,ho];done) | (left;simp [BI,ht];done)) | (refine⟨AN (HR.out.trans (EW hlt ?_)).symm,hb1.trans ((hb2.trans ((AD _ _).mono hb2.size)).mono hb1.size)⟩;right;omega))
        go_roundw
        case rel=>exact⟨j+1,by omega,by go_num,λ_=>by omega,λi hi=>by
         by_cases e:i=j
         · subst e;simp [BI,ho,ht]
         · exact hall i (by omega),hb3⟩
        case measure=>simp [VQ];omega
       ·
        obtain rfl:j=n2:=by omega
        go_wp2;go_ret
        exact⟨AN (HR.out.trans (Gp hall hm)).symm,hb1.trans (hb2.mono hb1.size)⟩
     ·
      by_cases e2:k=2
      ·
       subst e2;have HR:Hid (AK D=(Bn n3 1 20 && allN n3 (λj=>Aa (V j).o (V j).m (V j).s))):=by rw [Hid,HO.out,hbad,hR2.out rfl,hnm];simp
       clear hR1 hR2 hR3 hR4 hR5 hR0 HO HB hbad;go_wp2;go_loopw [2,7,103] (λ_ _ i wr=>∃ k:Nat,k<=n3/\i=ι κ k/\(0<k->n3<=20)/\(∀ j,j<k->Aa (V j).o (V j).m (V j).s=true)/\υ wc.heap.size wc wr) (λ_ _ i _=>n3 - (VQ i).toNat)
       case atStart=>exact⟨0,by omega,rfl,λhh=>by omega,λj hj=>by omega,VT _ _⟩
       case round=>
        obtain⟨j,hj,rfl,hm,hall,hb2⟩:=hrel;have t2:=AB hb2 q3;by_cases hlt:j<n3
        ·
         obtain⟨b,off,rfl,d0,d1,d2,hs⟩:=hva.later hb2 j hlt;have t3:=AB (AD wr (γ #[ι κ (V j).o,ι κ (V j).m,τ (V j).s] 60)) t2;go_wp2_with (go_at_call 48;refine(Qv _ _ _ _ hs).mono ?_;rintro e w3 ⟨rfl,hb3⟩;replace hb3:=bj hb2 hb3;rcases ho:Aa (V j).o (V j).m (V j).s)
         all_goals try (go_ret;first | (refine⟨AN (HR.out.trans (EW hlt ?_)).symm,hb1.trans (hb3.mono hb1.size)⟩;first | (right;omega) | (left;exact ho)) | (refine⟨AN (HR.out.trans (EW hlt ?_)).symm,hb1.trans ((hb2.trans ((AD _ _).mono hb2.size)).mono hb1.size)⟩;right;omega))
         go_roundw
         case rel=>exact⟨j+1,by omega,by go_num,λ_=>by omega,λi hi=>by
          by_cases e:i=j
          · subst e;exact ho
          · exact hall i (by omega),hb3⟩
         case measure=>simp [VQ];omega
        ·
         obtain rfl:j=n3:=by omega
         go_wp2;go_ret
         exact⟨AN (HR.out.trans (Gp hall hm)).symm,hb1.trans (hb2.mono hb1.size)⟩
      ·
       have HR:Hid (AK D=false):=by rw [Hid,HO.out,hR0.out e1 e2 (by omega) (by omega) (by omega)];simp
       clear hR1 hR2 hR3 hR4 hR5 hR0 HO HB hbad;go_wp2;go_ret
       exact⟨AN (by rw [HR.out]),hb1⟩
    ·
     have e6i:¬(n6:Int)=0:=by omega
     have HR:Hid (AK D=false):=by rw [Hid,HO.out];simp [hk3,e6]
     clear hR1 hR2 hR3 hR4 hR5 hR0 HO HB hbad;go_wp2;go_ret
     exact⟨AN (by rw [HR.out]),hb1⟩
   ·
    have hk3':3<=k:=by omega
    have HO3:Hid (AK D=BR D):=by rw [Hid,HO.out,hbad,hnm];simp [hk3]
    clear hR1 hR2 HO HB hbad;by_cases e3:k=3
    ·
     subst e3;have HR:Hid (AK D=(AM col && AZ E n5 && AI W n6)):=HO3.out.trans (hR3.out rfl);clear hR3 hR4 hR5 hR0 HO3;go_wp2_with (first | (go_at_call 46;refine(EY col _ hcol).mono ?_;rintro e w2 ⟨rfl,hb2⟩;have H2:=H1.later hb2;obtain⟨-,-,-,-,-,r5,r6,-⟩:=Q1.later hb2;dsimp only at r5 r6;replace hb2:=hb1.trans (hb2.mono hb1.size);rcases ho:AM col) | (go_at_call 49;refine(Qz a5 n5 c5 E _ H2.ex l5).mono ?_;rintro e w3 ⟨rfl,hb3⟩;have H3:=H2.later hb3;have s6:=AB hb3 r6;replace hb3:=hb2.trans (hb3.mono hb2.size);rcases hx:AZ E n5) | (go_at_call 50;refine(Kr a6 n6 c6 W _ H3.wh l6).mono ?_;rintro e w4 ⟨rfl,hb4⟩;replace hb4:=hb3.trans (hb4.mono hb3.size)))
     ·
      go_ret
      exact⟨AN (by rw [HR.out,ho];simp),hb2⟩
     ·
      go_ret
      exact⟨AN (by rw [HR.out,hx];simp),hb3⟩
     ·
      go_ret
      exact⟨AN (by rw [HR.out,ho,hx];simp),hb4⟩
    by_cases e4:k=4
    ·
     subst e4;have HR:Hid (AK D=AI W n6):=HO3.out.trans (hR4.out rfl);clear hR3 hR4 hR5 hR0 HO3;go_wp2_with (go_at_call 50;refine(Kr a6 n6 c6 W _ hwh l6).mono ?_;rintro e w4 ⟨rfl,hb4⟩;replace hb4:=hb1.trans (hb4.mono hb1.size))
     go_ret
     exact⟨AN (by rw [HR.out]),hb4⟩
    by_cases e5:k=5
    ·
     subst e5;have HR:Hid (AK D=((Bn n7 1 20 && allN n7 (λj=>AZ (O j) (m7 j))) && AI W n6)):=HO3.out.trans (hR5.out rfl);clear hR3 hR4 hR5 hR0 HO3;go_wp2;go_loopw [2,9,146] (λ_ _ i wr=>∃ k:Nat,k<=n7/\i=ι κ k/\(0<k->n7<=20)/\(∀ j,j<k->AZ (O j) (m7 j)=true)/\υ wc.heap.size wc wr) (λ_ _ i _=>n7 - (VQ i).toNat)
     case atStart=>exact⟨0,by omega,rfl,λhh=>by omega,λj hj=>by omega,VT _ _⟩
     case round=>
      obtain⟨j,hj,rfl,hm,hall,hb2⟩:=hrel;have t2:=AB hb2 q7;have t6:=AB hb2 q6;by_cases hlt:j<n7
      ·
       obtain⟨b,off,i,c,rfl,d0,di,dm⟩:=hou.later hb2 j hlt;go_wp2_with (go_at_call 49;refine(Qz i _ c _ _ di dm).mono ?_;rintro e w3 ⟨rfl,hb3⟩;replace hb3:=hb2.trans (hb3.mono hb2.size);rcases ho:AZ (O j) (m7 j))
       all_goals try (go_ret;first | (refine⟨AN (HR.out.trans (MJ (EW hlt ?_))).symm,hb1.trans (hb3.mono hb1.size)⟩;first | (right;omega) | (left;exact ho)) | (refine⟨AN (HR.out.trans (MJ (EW hlt ?_))).symm,hb1.trans (hb2.mono hb1.size)⟩;right;omega))
       go_roundw
       case rel=>exact⟨j+1,by omega,by go_num,λ_=>by omega,λi hi=>by
        by_cases e:i=j
        · subst e;exact ho
        · exact hall i (by omega),hb3⟩
       case measure=>simp [VQ];omega
      ·
       obtain rfl:j=n7:=by omega
       have hyy:=Gp hall hm;by_cases h0:0<(j:Int)
       ·
        go_wp2_with (go_at_call 50;refine(Kr a6 n6 c6 W _ (hwh.later hb2) l6).mono ?_;rintro e w3 ⟨rfl,hb3⟩;replace hb3:=hb2.trans (hb3.mono hb2.size))
        go_ret
        exact⟨AN (by rw [HR.out,hyy,decide_eq_true (show 0<j by omega)];simp),hb1.trans (hb3.mono hb1.size)⟩
       ·
        have h0':decide (0<(j:Int))=false:=by simp;omega
        go_wp2;go_ret
        exact⟨AN (by rw [HR.out,hyy,decide_eq_false (show ¬0<j by omega)];simp),hb1.trans (hb2.mono hb1.size)⟩
    have HR:Hid (AK D=false):=HO3.out.trans (hR0.out (by omega) (by omega) e3 e4 e5);clear hR3 hR4 hR5 hR0 HO3;go_wp2;go_ret
    exact⟨AN (by rw [HR.out]),hb1⟩
  ·
   have HR:Hid (AK D=false):=by rw [Hid,HO.out,hbad];simp
   clear hR1 hR2 hR3 hR4 hR5 hR0 HO HB;go_wp2;go_ret
   exact⟨AN (by rw [HR.out]),hb1⟩
theorem UA(d:St)(p:Sa)(w:ο)(h:SM w d p):VK μ 18 #[χ (GC d p)] w λe w'=>e=ρ (β (AK d))/\υ w.heap.size w w':=by
 obtain⟨k,tb,n2,C,n3,V,col,n5,E,n6,W,n7,m7,O⟩:=d;obtain⟨a2,c2,a3,c3,a5,c5,a6,c6,a7,c7⟩:=p;exact Ld k tb n2 C n3 V col n5 E n6 W n7 m7 O a2 c2 a3 c3 a5 c5 a6 c6 a7 c7 _ rfl w h
set_option maxHeartbeats 4000000
def BB(o m:Int)(s:ByteArray)(k:Int):Bool:=o == k && (if k == 1 then decide (s.size=0) else m == 0 && A6 s)
theorem NW(o m:Int)(s:ByteArray)(k:Int)(w:ο)(hs:s.size<=1048576):VK μ 77 #[χ #[ι κ o,ι κ m,τ s],ι κ k] w λe w'=>e=ρ (β (BB o m s k))/\υ w.heap.size w w':=by
 have hb0:=AD w (γ #[ι κ o,ι κ m,τ s] 60);have hE:=NA s;rcases h1:(o == k)
 ·
  go_enter Tryz.func77,Tryz.ntmps77
  go_wp2;go_ret
  exact⟨AN (by simp [BB,h1]),hb0⟩
 rcases h2:(k == 1)
 ·
  rcases h3:(m == 0)
  ·
   go_enter Tryz.func77,Tryz.ntmps77
   go_wp2;go_ret
   exact⟨AN (by simp [BB,h1,h2,h3]),hb0⟩
  ·
   go_enter Tryz.func77,Tryz.ntmps77
   go_wp2_with (go_at_call 94;refine(Lc s _ hs).mono ?_;rintro e w1 ⟨rfl,hb1⟩)
   go_ret
   exact⟨AN (by simp [BB,h1,h2,h3]),hb0⟩
 ·
  go_enter Tryz.func77,Tryz.ntmps77
  go_wp2;go_ret
  exact⟨AN (by simp [BB,h1,h2]),hb0⟩
def DJ(m:Int)(s:ByteArray)(m':Int)(s':ByteArray):Bool:=decide (m<m') || Va s.toList s'.toList
theorem Jj(o m:Int)(s:ByteArray)(o' m':Int)(s':ByteArray)(w:ο):VK μ 55 #[χ #[ι κ o,ι κ m,τ s],χ #[ι κ o',ι κ m',τ s']] w λe w'=>∃ r:Int,e=ρ (ι κ r)/\(0<=r↔DJ m s m' s'=false)/\υ w.heap.size w w':=by
 have hb0:=AA (AD w (γ #[ι κ o,ι κ m,τ s] 60)) (AD _ (γ #[ι κ o',ι κ m',τ s'] 60));by_cases h1:m<m'
 ·
  have HB:Hid (DJ m s m' s'=true):=by simp [Hid,DJ,h1]
  go_enter Tryz.func55,Tryz.ntmps55
  go_wp2;all_goals go_ret
  all_goals exact⟨_,rfl,by rw [HB.out];simp,hb0⟩
 rcases h2:Va s.toList s'.toList
 ·
  have HB:Hid (DJ m s m' s'=false):=by simp [Hid,DJ,h2];omega
  by_cases h3:m'<m
  ·
   go_enter Tryz.func55,Tryz.ntmps55
   go_wp2;all_goals go_ret
   all_goals exact⟨_,rfl,by rw [HB.out];simp,hb0⟩
  ·
   rcases h4:(s.toList == s'.toList)
   ·
    go_enter Tryz.func55,Tryz.ntmps55
    go_wp2;all_goals go_ret
    all_goals exact⟨_,rfl,by rw [HB.out];simp,hb0⟩
   ·
    go_enter Tryz.func55,Tryz.ntmps55
    go_wp2;all_goals go_ret
    all_goals exact⟨_,rfl,by rw [HB.out];simp,hb0⟩
 ·
  have HB:Hid (DJ m s m' s'=true):=by simp [Hid,DJ,h2]
  go_enter Tryz.func55,Tryz.ntmps55
  go_wp2;all_goals go_ret
  all_goals exact⟨_,rfl,by rw [HB.out];simp,hb0⟩
def AR(C:Nat->Clm)(s:ByteArray):Nat->Bool
 | 0=>false
 | k+1=>AR C s k || (C k).s.toList == s.toList
theorem KG{C:Nat->Clm}{s:ByteArray}{k:Nat}(h:AR C s k=true):∀ n,k<=n->AR C s n=true:=by
 intro n hn;induction n with
 | zero=>
  obtain rfl:k=0:=by omega
  exact h
 | succ n ih=>
  by_cases e:k=n+1
  · subst e;exact h
  · rw [AR,ih (by omega)];rfl
theorem Q0(a:Option Addr)(n c:Nat)(C:Nat->Clm)(s:ByteArray)(w:ο)(h:CL w a n C)(hn:n<=1048576):VK μ 51 #[σ a n c,τ s] w λe w'=>∃ r:Int,e=ρ (ι κ r)/\(0<=r↔AR C s n=true)/\υ w.heap.size w w':=by
 have hb0:=VT w.heap.size w;go_enter Tryz.func51,Tryz.ntmps51
 go_wp2;go_loopw [5,6,9] (λ_ _ i wr=>∃ k:Nat,k<=n/\i=ι κ k/\AR C s k=false/\υ w.heap.size w wr) (λ_ _ i _=>n - (VQ i).toNat)
 case atStart=>exact⟨0,by omega,rfl,rfl,hb0⟩
 case round=>
  obtain⟨k,hk,rfl,hno,hb⟩:=hrel;by_cases hlt:k<n
  ·
   obtain⟨b,off,rfl,d0,d1,hs⟩:=h.later hb k hlt;have HN:Hid (AR C s (k+1)=(AR C s k || (C k).s.toList == s.toList)):=rfl;rcases he:((C k).s.toList == s.toList)
   ·
    go_wp2;go_roundw
    case rel=>exact⟨k+1,by omega,by go_num,by rw [HN.out,hno,he];rfl,bj hb (VT _ _)⟩
    case measure=>simp [VQ];omega
   ·
    go_wp2;go_ret
    refine⟨_,rfl,⟨λ_=>KG (k:=k+1) (by rw [HN.out,he];simp) n (by omega),λ_=>by omega⟩,bj hb (VT _ _)⟩
  ·
   obtain rfl:k=n:=by omega
   go_wp2;go_ret
   exact⟨_,rfl,by rw [hno];simp,hb⟩
def BH(m:Int)(s:ByteArray)(m':Int)(s':ByteArray):Int:=if DJ m s m' s'=true then -1 else if (decide (m'<m) || !(s.toList == s'.toList))=true then 1 else 0
theorem Dr(o m:Int)(s:ByteArray)(o' m':Int)(s':ByteArray)(w:ο):VK μ 55 #[χ #[ι κ o,ι κ m,τ s],χ #[ι κ o',ι κ m',τ s']] w λe w'=>e=ρ (ι κ (BH m s m' s'))/\υ w.heap.size w w':=by
 have hb0:=AA (AD w (γ #[ι κ o,ι κ m,τ s] 60)) (AD _ (γ #[ι κ o',ι κ m',τ s'] 60));by_cases h1:m<m'
 ·
  have HB:Hid (BH m s m' s'=-1):=by simp [Hid,BH,DJ,h1]
  go_enter Tryz.func55,Tryz.ntmps55
  go_wp2;all_goals go_ret
  all_goals exact⟨by rw [HB.out];rfl,hb0⟩
 rcases h2:Va s.toList s'.toList
 ·
  by_cases h3:m'<m
  ·
   have HB:Hid (BH m s m' s'=1):=by simp [Hid,BH,DJ,h1,h2,h3]
   go_enter Tryz.func55,Tryz.ntmps55
   go_wp2;all_goals go_ret
   all_goals exact⟨by rw [HB.out];rfl,hb0⟩
  ·
   rcases h4:(s.toList == s'.toList)
   ·
    have HB:Hid (BH m s m' s'=1):=by simp [Hid,BH,DJ,h1,h2,h3,h4]
    go_enter Tryz.func55,Tryz.ntmps55
    go_wp2;all_goals go_ret
    all_goals exact⟨by rw [HB.out];rfl,hb0⟩
   ·
    have HB:Hid (BH m s m' s'=0):=by simp [Hid,BH,DJ,h1,h2,h3,h4]
    go_enter Tryz.func55,Tryz.ntmps55
    go_wp2;all_goals go_ret
    all_goals exact⟨by rw [HB.out];rfl,hb0⟩
 ·
  have HB:Hid (BH m s m' s'=-1):=by simp [Hid,BH,DJ,h2]
  go_enter Tryz.func55,Tryz.ntmps55
  go_wp2;all_goals go_ret
  all_goals exact⟨by rw [HB.out];rfl,hb0⟩
def BF(C:Nat->Clm)(s:ByteArray):Nat->Option Nat
 | 0=>ν
 | k+1=>match BF C s k with
  | some j=>ς j
  | none=>if ((C k).s.toList == s.toList)=true then ς k else ν
def JR(o:Option Nat):Int:=match o with
 | some j=>(j:Int)
 | none=>-1
theorem Mu{C:Nat->Clm}{s:ByteArray}{k j:Nat}(h:BF C s k=ς j):∀ n,k<=n->BF C s n=ς j:=by
 intro n hn;induction n with
 | zero=>
  obtain rfl:k=0:=by omega
  exact h
 | succ n ih=>
  by_cases e:k=n+1
  · subst e;exact h
  · rw [BF,ih (by omega)]
theorem Bz{C:Nat->Clm}{s:ByteArray}:∀ {n j:Nat},BF C s n=ς j->j<n/\(C j).s=s
 | 0,j,h=>by cases h
 | n+1,j,h=>by
  rw [BF] at h;split at h
  ·
   rename_i i hi
   cases h
   have:=Bz hi;exact⟨by omega,this.2⟩
  ·
   split at h
   ·
    rename_i he
    cases h
    exact⟨by omega,BD (eq_of_beq he)⟩
   · cases h
theorem FG(a:Option Addr)(n c:Nat)(C:Nat->Clm)(s:ByteArray)(w:ο)(h:CL w a n C)(hn:n<=1048576):VK μ 51 #[σ a n c,τ s] w λe w'=>e=ρ (ι κ (JR (BF C s n)))/\υ w.heap.size w w':=by
 have hb0:=VT w.heap.size w;go_enter Tryz.func51,Tryz.ntmps51
 go_wp2;go_loopw [5,6,9] (λ_ _ i wr=>∃ k:Nat,k<=n/\i=ι κ k/\BF C s k=ν/\υ w.heap.size w wr) (λ_ _ i _=>n - (VQ i).toNat)
 case atStart=>exact⟨0,by omega,rfl,rfl,hb0⟩
 case round=>
  obtain⟨k,hk,rfl,hno,hb⟩:=hrel;have HNO:Hid (BF C s k=ν):=hno;clear hno;by_cases hlt:k<n
  ·
   obtain⟨b,off,rfl,d0,d1,hs⟩:=h.later hb k hlt;have HN:Hid (BF C s (k+1)=if ((C k).s.toList == s.toList)=true then ς k else ν):=by show _=_;rw [BF,HNO.out]
   rcases he:((C k).s.toList == s.toList)
   ·
    go_wp2;go_roundw
    case rel=>exact⟨k+1,by omega,by go_num,by rw [HN.out,he];rfl,bj hb (VT _ _)⟩
    case measure=>simp [VQ];omega
   ·
    go_wp2;go_ret
    refine⟨?_,bj hb (VT _ _)⟩;rw [Mu (k:=k+1) (j:=k) (by rw [HN.out,he];rfl) n (by omega)];rfl
  ·
   obtain rfl:k=n:=by omega
   go_wp2;go_ret
   exact⟨by rw [HNO.out];rfl,hb⟩
def Db(b:Bool):Int:=if b=true then 1 else 0
def Kf(b:Bool):Itm:=⟨1,Db b,⟨#[]⟩⟩
theorem EH(b:Bool)(w:ο):VK μ 121 #[β b] w λe w'=>e=ρ (χ #[ι κ 1,ι κ (Db b),τ ⟨#[]⟩])/\υ w.heap.size w w':=by
 cases b
 ·
  go_enter Tryz.func121,Tryz.ntmps121
  go_wp2;exact VE (v:=χ #[ι κ 1,ι κ 0,τ ⟨#[]⟩]) (by simp [results,Tryz.results121,go_sem]) rfl ⟨rfl,AD _ _⟩
 ·
  go_enter Tryz.func121,Tryz.ntmps121
  go_wp2;exact VE (v:=χ #[ι κ 1,ι κ 1,τ ⟨#[]⟩]) (by simp [results,Tryz.results121,go_sem]) rfl ⟨rfl,AD _ _⟩
set_option maxHeartbeats 8000000
def C8(o:Int)(x y:Itm):Itm:=
 if o=11 then Kf (decide (x.m=0))
 else if o=13 then ⟨1,(x.s.size:Int),⟨#[]⟩⟩
 else if o=4 then ⟨1,wrap64 (x.m+y.m),⟨#[]⟩⟩
 else if o=5 then ⟨1,wrap64 (x.m - y.m),⟨#[]⟩⟩
 else if o=6 then ⟨1,wrap64 (x.m * y.m),⟨#[]⟩⟩
 else if o=7 then Kf (decide (BH x.m x.s y.m y.s=0))
 else if o=8 then Kf (decide (BH x.m x.s y.m y.s<0))
 else if o=9 then Kf (!decide (x.m=0) && !decide (y.m=0))
 else if o=10 then Kf (!decide (x.m=0) || !decide (y.m=0))
 else ⟨2,0,x.s ++ y.s⟩
theorem DM{W:ο}{R:Nat}{X:Array VN}(h:W.heap[R]?=ς (γ X 60 (0,0)))(v0 v1 v2:VN):(((W.setCell ⟨R,0,ν⟩ v0).setCell ⟨R,1,ν⟩ v1).setCell ⟨R,2,ν⟩ v2).heap[R]?=ς (γ (((X.setIfInBounds 0 v0).setIfInBounds 1 v1).setIfInBounds 2 v2) 60 (0,0)):=
 π _ _ 2 _ _ v2 (π _ _ 1 _ _ v1 (π _ _ 0 _ _ v0 h))
theorem BM{w W:ο}{R:Nat}(hb:υ w.heap.size w W)(h:w.heap.size<=R)(v0 v1 v2:VN):υ w.heap.size w (((W.setCell ⟨R,0,ν⟩ v0).setCell ⟨R,1,ν⟩ v1).setCell ⟨R,2,ν⟩ v2):=Bg (Bg (Bg hb h) h) h
theorem RB(a:Option Addr)(m c:Nat)(I:Nat->Itm)(w:ο)(h:IL w a m I)(hm:1<=m)(hm2:m<=1048576) :
 VK μ 83 #[ι κ 13,σ a m c] w λe w'=>e=ρ (χ #[ι κ 1,ι κ ((I 0).s.size:Int),τ ⟨#[]⟩])/\υ w.heap.size w w':=by
 have i0:(0:Int)<m:=by omega
 obtain⟨b,off,rfl,c0,c1,c2,hs⟩:=h.later (AD w (γ #[ι κ 0,ι κ 0,τ ⟨#[]⟩] 60)) 0 (by omega);simp only [Nat.zero_mul,Vf] at c0 c1 c2
 go_enter Tryz.func83,Tryz.ntmps83
 go_wp2;exact VE (v:=χ #[ι κ 1,ι κ ((I 0).s.size:Int),τ ⟨#[]⟩]) (by simp [results,Tryz.results83,go_sem]) rfl ⟨rfl,by first | exact AA (AD _ _) (AD _ _) | exact Ay _ _ _ _⟩
theorem SX(a:Option Addr)(m c:Nat)(I:Nat->Itm)(w:ο)(h:IL w a m I)(hm:2<=m)(hm2:m<=1048576) :
 VK μ 83 #[ι κ 4,σ a m c] w λe w'=>e=ρ (χ #[ι κ 1,ι κ (wrap64 ((I 0).m+(I 1).m)),τ ⟨#[]⟩])/\υ w.heap.size w w':=by
 have i0:(0:Int)<m:=by omega
 have i1:(1:Int)<m:=by omega
 obtain⟨b,off,rfl,c0,c1,c2,hs⟩:=h.later (AD w (γ #[ι κ 0,ι κ 0,τ ⟨#[]⟩] 60)) 0 (by omega);simp only [Nat.zero_mul,Vf] at c0 c1 c2
 obtain⟨b',off',e',d0,d1,d2,hs'⟩:=h.later (w':=((w.alloc (γ #[ι κ 0,ι κ 0,τ ⟨#[]⟩] 60)).alloc (γ #[ι κ (I 0).o,ι κ (I 0).m,τ (I 0).s] 60))) (AA (AD _ _) (AD _ _)) 1 (by omega);simp only [Nat.one_mul] at d0 d1 d2
 obtain⟨rfl,rfl⟩:b=b'/\off=off':=by simpa using e'
 clear e';go_enter Tryz.func83,Tryz.ntmps83
 go_wp2;exact VE (v:=χ #[ι κ 1,ι κ (wrap64 ((I 0).m+(I 1).m)),τ ⟨#[]⟩]) (by simp [results,Tryz.results83,go_sem]) rfl ⟨rfl,by first | exact AA (AD _ _) (AD _ _) | exact Ay _ _ _ _⟩
theorem SW(a:Option Addr)(m c:Nat)(I:Nat->Itm)(w:ο)(h:IL w a m I)(hm:2<=m)(hm2:m<=1048576) :
 VK μ 83 #[ι κ 5,σ a m c] w λe w'=>e=ρ (χ #[ι κ 1,ι κ (wrap64 ((I 0).m - (I 1).m)),τ ⟨#[]⟩])/\υ w.heap.size w w':=by
 have i0:(0:Int)<m:=by omega
 have i1:(1:Int)<m:=by omega
 obtain⟨b,off,rfl,c0,c1,c2,hs⟩:=h.later (AD w (γ #[ι κ 0,ι κ 0,τ ⟨#[]⟩] 60)) 0 (by omega);simp only [Nat.zero_mul,Vf] at c0 c1 c2
 obtain⟨b',off',e',d0,d1,d2,hs'⟩:=h.later (w':=((w.alloc (γ #[ι κ 0,ι κ 0,τ ⟨#[]⟩] 60)).alloc (γ #[ι κ (I 0).o,ι κ (I 0).m,τ (I 0).s] 60))) (AA (AD _ _) (AD _ _)) 1 (by omega);simp only [Nat.one_mul] at d0 d1 d2
 obtain⟨rfl,rfl⟩:b=b'/\off=off':=by simpa using e'
 clear e';go_enter Tryz.func83,Tryz.ntmps83
 go_wp2;exact VE (v:=χ #[ι κ 1,ι κ (wrap64 ((I 0).m - (I 1).m)),τ ⟨#[]⟩]) (by simp [results,Tryz.results83,go_sem]) rfl ⟨rfl,by first | exact AA (AD _ _) (AD _ _) | exact Ay _ _ _ _⟩
theorem SV(a:Option Addr)(m c:Nat)(I:Nat->Itm)(w:ο)(h:IL w a m I)(hm:2<=m)(hm2:m<=1048576) :
 VK μ 83 #[ι κ 6,σ a m c] w λe w'=>e=ρ (χ #[ι κ 1,ι κ (wrap64 ((I 0).m * (I 1).m)),τ ⟨#[]⟩])/\υ w.heap.size w w':=by
 have i0:(0:Int)<m:=by omega
 have i1:(1:Int)<m:=by omega
 obtain⟨b,off,rfl,c0,c1,c2,hs⟩:=h.later (AD w (γ #[ι κ 0,ι κ 0,τ ⟨#[]⟩] 60)) 0 (by omega);simp only [Nat.zero_mul,Vf] at c0 c1 c2
 obtain⟨b',off',e',d0,d1,d2,hs'⟩:=h.later (w':=((w.alloc (γ #[ι κ 0,ι κ 0,τ ⟨#[]⟩] 60)).alloc (γ #[ι κ (I 0).o,ι κ (I 0).m,τ (I 0).s] 60))) (AA (AD _ _) (AD _ _)) 1 (by omega);simp only [Nat.one_mul] at d0 d1 d2
 obtain⟨rfl,rfl⟩:b=b'/\off=off':=by simpa using e'
 clear e';go_enter Tryz.func83,Tryz.ntmps83
 go_wp2;exact VE (v:=χ #[ι κ 1,ι κ (wrap64 ((I 0).m * (I 1).m)),τ ⟨#[]⟩]) (by simp [results,Tryz.results83,go_sem]) rfl ⟨rfl,by first | exact AA (AD _ _) (AD _ _) | exact Ay _ _ _ _⟩
theorem RD(a:Option Addr)(m c:Nat)(I:Nat->Itm)(w:ο)(h:IL w a m I)(hm:2<=m)(hm2:m<=1048576) :
 VK μ 83 #[ι κ 12,σ a m c] w λe w'=>e=ρ (χ #[ι κ 2,ι κ 0,τ ((I 0).s ++ (I 1).s)])/\υ w.heap.size w w':=by
 have i0:(0:Int)<m:=by omega
 have i1:(1:Int)<m:=by omega
 obtain⟨b,off,rfl,c0,c1,c2,hs⟩:=h.later (AD w (γ #[ι κ 0,ι κ 0,τ ⟨#[]⟩] 60)) 0 (by omega);simp only [Nat.zero_mul,Vf] at c0 c1 c2
 obtain⟨b',off',e',d0,d1,d2,hs'⟩:=h.later (w':=((w.alloc (γ #[ι κ 0,ι κ 0,τ ⟨#[]⟩] 60)).alloc (γ #[ι κ (I 0).o,ι κ (I 0).m,τ (I 0).s] 60))) (AA (AD _ _) (AD _ _)) 1 (by omega);simp only [Nat.one_mul] at d0 d1 d2
 obtain⟨rfl,rfl⟩:b=b'/\off=off':=by simpa using e'
 clear e';go_enter Tryz.func83,Tryz.ntmps83
 go_wp2;exact VE (v:=χ #[ι κ 2,ι κ 0,τ ((I 0).s ++ (I 1).s)]) (by simp [results,Tryz.results83,go_sem]) rfl ⟨rfl,by first | exact AA (AD _ _) (AD _ _) | exact Ay _ _ _ _⟩
theorem RE(a:Option Addr)(m c:Nat)(I:Nat->Itm)(w:ο)(h:IL w a m I)(hm:1<=m)(hm2:m<=1048576) :
 VK μ 83 #[ι κ 11,σ a m c] w λe w'=>e=ρ (χ #[ι κ 1,ι κ (Db (decide ((I 0).m=0))),τ ⟨#[]⟩])/\υ w.heap.size w w':=by
 have i0:(0:Int)<m:=by omega
 obtain⟨b,off,rfl,c0,c1,c2,hs⟩:=h.later (AD w (γ #[ι κ 0,ι κ 0,τ ⟨#[]⟩] 60)) 0 (by omega);simp only [Nat.zero_mul,Vf] at c0 c1 c2
 have hb0:υ w.heap.size w ((w.alloc (γ #[ι κ 0,ι κ 0,τ ⟨#[]⟩] 60)).alloc (γ #[ι κ (I 0).o,ι κ (I 0).m,τ (I 0).s] 60)):=AA (AD _ _) (AD _ _);have HR0:Hid (((w.alloc (γ #[ι κ 0,ι κ 0,τ ⟨#[]⟩] 60)).alloc (γ #[ι κ (I 0).o,ι κ (I 0).m,τ (I 0).s] 60)).heap[w.heap.size]?=ς (γ #[ι κ 0,ι κ 0,τ ⟨#[]⟩] 60 (0,0))):=AC (η w _) (AD _ _);go_enter Tryz.func83,Tryz.ntmps83
 go_wp2_with (first | (go_at_call 121;refine(EH ((decide ((I 0).m=0))) _).mono ?_;rintro e w2 ⟨rfl,hb2⟩;have HR2:=AC HR0.out hb2;have r0:w2.cell? ⟨w.heap.size,0,ν⟩=ς (ι κ 0):=(ε _ _ 0 _ _ _ HR2).trans rfl;have rf0:w2.frozen? ⟨w.heap.size,0,ν⟩=false:=ζ _ _ 0 _ _ HR2;have r1:w2.cell? ⟨w.heap.size,1,ν⟩=ς (ι κ 0):=(ε _ _ 1 _ _ _ HR2).trans rfl;have rf1:w2.frozen? ⟨w.heap.size,1,ν⟩=false:=ζ _ _ 1 _ _ HR2;have r2:w2.cell? ⟨w.heap.size,2,ν⟩=ς (τ ⟨#[]⟩):=(ε _ _ 2 _ _ _ HR2).trans rfl;have rf2:w2.frozen? ⟨w.heap.size,2,ν⟩=false:=ζ _ _ 2 _ _ HR2;have B2:=AA hb0 hb2))
 exact VE (v:=χ #[ι κ 1,ι κ (Db (decide ((I 0).m=0))),τ ⟨#[]⟩]) (VW Tryz.results83 _ _ w.heap.size 60 _ (0,0) _ rfl (DM HR2 _ _ _) Tryz.underlying60 rfl (by kernel_rfl)) rfl ⟨rfl,BM B2 (VD _) _ _ _⟩
theorem SU(a:Option Addr)(m c:Nat)(I:Nat->Itm)(w:ο)(h:IL w a m I)(hm:2<=m)(hm2:m<=1048576) :
 VK μ 83 #[ι κ 7,σ a m c] w λe w'=>e=ρ (χ #[ι κ 1,ι κ (Db (decide (BH (I 0).m (I 0).s (I 1).m (I 1).s=0))),τ ⟨#[]⟩])/\υ w.heap.size w w':=by
 have i0:(0:Int)<m:=by omega
 have i1:(1:Int)<m:=by omega
 obtain⟨b,off,rfl,c0,c1,c2,hs⟩:=h.later (AD w (γ #[ι κ 0,ι κ 0,τ ⟨#[]⟩] 60)) 0 (by omega);simp only [Nat.zero_mul,Vf] at c0 c1 c2
 obtain⟨b',off',e',d0,d1,d2,hs'⟩:=h.later (w':=((w.alloc (γ #[ι κ 0,ι κ 0,τ ⟨#[]⟩] 60)).alloc (γ #[ι κ (I 0).o,ι κ (I 0).m,τ (I 0).s] 60))) (AA (AD _ _) (AD _ _)) 1 (by omega);simp only [Nat.one_mul] at d0 d1 d2
 obtain⟨rfl,rfl⟩:b=b'/\off=off':=by simpa using e'
 clear e';have hb0:υ w.heap.size w (((w.alloc (γ #[ι κ 0,ι κ 0,τ ⟨#[]⟩] 60)).alloc (γ #[ι κ (I 0).o,ι κ (I 0).m,τ (I 0).s] 60)).alloc (γ #[ι κ (I 1).o,ι κ (I 1).m,τ (I 1).s] 60)):=Ay _ _ _ _;have HR0:Hid ((((w.alloc (γ #[ι κ 0,ι κ 0,τ ⟨#[]⟩] 60)).alloc (γ #[ι κ (I 0).o,ι κ (I 0).m,τ (I 0).s] 60)).alloc (γ #[ι κ (I 1).o,ι κ (I 1).m,τ (I 1).s] 60)).heap[w.heap.size]?=ς (γ #[ι κ 0,ι κ 0,τ ⟨#[]⟩] 60 (0,0))):=AC (AC (η w _) (AD _ _)) (AD _ _);go_enter Tryz.func83,Tryz.ntmps83
 go_wp2_with (first | (go_at_call 55;refine(Dr (I 0).o (I 0).m (I 0).s (I 1).o (I 1).m (I 1).s _).mono ?_;rintro e w1 ⟨rfl,hb1⟩) | (go_at_call 121;refine(EH ((decide (BH (I 0).m (I 0).s (I 1).m (I 1).s=0))) _).mono ?_;rintro e w2 ⟨rfl,hb2⟩;have HR2:=AC (AC HR0.out hb1) hb2;have r0:w2.cell? ⟨w.heap.size,0,ν⟩=ς (ι κ 0):=(ε _ _ 0 _ _ _ HR2).trans rfl;have rf0:w2.frozen? ⟨w.heap.size,0,ν⟩=false:=ζ _ _ 0 _ _ HR2;have r1:w2.cell? ⟨w.heap.size,1,ν⟩=ς (ι κ 0):=(ε _ _ 1 _ _ _ HR2).trans rfl;have rf1:w2.frozen? ⟨w.heap.size,1,ν⟩=false:=ζ _ _ 1 _ _ HR2;have r2:w2.cell? ⟨w.heap.size,2,ν⟩=ς (τ ⟨#[]⟩):=(ε _ _ 2 _ _ _ HR2).trans rfl;have rf2:w2.frozen? ⟨w.heap.size,2,ν⟩=false:=ζ _ _ 2 _ _ HR2;have B2:=AA (AA hb0 hb1) hb2))
 exact VE (v:=χ #[ι κ 1,ι κ (Db (decide (BH (I 0).m (I 0).s (I 1).m (I 1).s=0))),τ ⟨#[]⟩]) (VW Tryz.results83 _ _ w.heap.size 60 _ (0,0) _ rfl (DM HR2 _ _ _) Tryz.underlying60 rfl (by kernel_rfl)) rfl ⟨rfl,BM B2 (VD _) _ _ _⟩
theorem ST(a:Option Addr)(m c:Nat)(I:Nat->Itm)(w:ο)(h:IL w a m I)(hm:2<=m)(hm2:m<=1048576) :
 VK μ 83 #[ι κ 8,σ a m c] w λe w'=>e=ρ (χ #[ι κ 1,ι κ (Db (decide (BH (I 0).m (I 0).s (I 1).m (I 1).s<0))),τ ⟨#[]⟩])/\υ w.heap.size w w':=by
 have i0:(0:Int)<m:=by omega
 have i1:(1:Int)<m:=by omega
 obtain⟨b,off,rfl,c0,c1,c2,hs⟩:=h.later (AD w (γ #[ι κ 0,ι κ 0,τ ⟨#[]⟩] 60)) 0 (by omega);simp only [Nat.zero_mul,Vf] at c0 c1 c2
 obtain⟨b',off',e',d0,d1,d2,hs'⟩:=h.later (w':=((w.alloc (γ #[ι κ 0,ι κ 0,τ ⟨#[]⟩] 60)).alloc (γ #[ι κ (I 0).o,ι κ (I 0).m,τ (I 0).s] 60))) (AA (AD _ _) (AD _ _)) 1 (by omega);simp only [Nat.one_mul] at d0 d1 d2
 obtain⟨rfl,rfl⟩:b=b'/\off=off':=by simpa using e'
 clear e';have hb0:υ w.heap.size w (((w.alloc (γ #[ι κ 0,ι κ 0,τ ⟨#[]⟩] 60)).alloc (γ #[ι κ (I 0).o,ι κ (I 0).m,τ (I 0).s] 60)).alloc (γ #[ι κ (I 1).o,ι κ (I 1).m,τ (I 1).s] 60)):=Ay _ _ _ _;have HR0:Hid ((((w.alloc (γ #[ι κ 0,ι κ 0,τ ⟨#[]⟩] 60)).alloc (γ #[ι κ (I 0).o,ι κ (I 0).m,τ (I 0).s] 60)).alloc (γ #[ι κ (I 1).o,ι κ (I 1).m,τ (I 1).s] 60)).heap[w.heap.size]?=ς (γ #[ι κ 0,ι κ 0,τ ⟨#[]⟩] 60 (0,0))):=AC (AC (η w _) (AD _ _)) (AD _ _);go_enter Tryz.func83,Tryz.ntmps83
 go_wp2_with (first | (go_at_call 55;refine(Dr (I 0).o (I 0).m (I 0).s (I 1).o (I 1).m (I 1).s _).mono ?_;rintro e w1 ⟨rfl,hb1⟩) | (go_at_call 121;refine(EH ((decide (BH (I 0).m (I 0).s (I 1).m (I 1).s<0))) _).mono ?_;rintro e w2 ⟨rfl,hb2⟩;have HR2:=AC (AC HR0.out hb1) hb2;have r0:w2.cell? ⟨w.heap.size,0,ν⟩=ς (ι κ 0):=(ε _ _ 0 _ _ _ HR2).trans rfl;have rf0:w2.frozen? ⟨w.heap.size,0,ν⟩=false:=ζ _ _ 0 _ _ HR2;have r1:w2.cell? ⟨w.heap.size,1,ν⟩=ς (ι κ 0):=(ε _ _ 1 _ _ _ HR2).trans rfl;have rf1:w2.frozen? ⟨w.heap.size,1,ν⟩=false:=ζ _ _ 1 _ _ HR2;have r2:w2.cell? ⟨w.heap.size,2,ν⟩=ς (τ ⟨#[]⟩):=(ε _ _ 2 _ _ _ HR2).trans rfl;have rf2:w2.frozen? ⟨w.heap.size,2,ν⟩=false:=ζ _ _ 2 _ _ HR2;have B2:=AA (AA hb0 hb1) hb2))
 exact VE (v:=χ #[ι κ 1,ι κ (Db (decide (BH (I 0).m (I 0).s (I 1).m (I 1).s<0))),τ ⟨#[]⟩]) (VW Tryz.results83 _ _ w.heap.size 60 _ (0,0) _ rfl (DM HR2 _ _ _) Tryz.underlying60 rfl (by kernel_rfl)) rfl ⟨rfl,BM B2 (VD _) _ _ _⟩
def B7(C:Nat->Clm)(n:Nat)(t:Itm)(a:List Int):Int×Int:=
 if t.o=2 then (2,0)
 else if t.o=3 then (match BF C t.s n with
  | some j=>((C j).t,0)
  | none=>(0,3))
 else if t.o=7∨t.o=8 then (if a.getD 0 0=a.getD 1 0 then (1,0) else (0,4))
 else if t.o=12 then (if a.getD 0 0=2/\a.getD 1 0=2 then (2,0) else (0,4))
 else if t.o=13 then (if a.getD 0 0=2 then (1,0) else (0,4))
 else (if a.all (λx=>x == 1)=true then (1,0) else (0,4))
def DZ(o:Int):Nat:=(AW o).toNat
theorem FP(o:Int):((DZ o:Nat):Int)=AW o:=by
 have:=CV o;unfold DZ;omega
def MS(C:Nat->Clm)(n:Nat)(t:Itm)(st:List Int):Int×Int:=B7 C n t (st.drop (st.length - DZ t.o))
def ck(C:Nat->Clm)(n:Nat)(I:Nat->Itm):Nat->List Int×Int
 | 0=>([],0)
 | k+1=>if (ck C n I k).2≠0 then ck C n I k
  else if (MS C n (I k) (ck C n I k).1).2≠0 then ((ck C n I k).1,(MS C n (I k) (ck C n I k).1).2)
  else ((ck C n I k).1.take ((ck C n I k).1.length - DZ (I k).o) ++ [(MS C n (I k) (ck C n I k).1).1],0)
def DA(C:Nat->Clm)(n:Nat)(I:Nat->Itm)(m:Nat):Int×Int:=if (ck C n I m).2≠0 then (0,(ck C n I m).2) else ((ck C n I m).1.getD 0 0,0)
theorem E6{C:Nat->Clm}{n:Nat}{I:Nat->Itm}{k:Nat}(h:(ck C n I k).2≠0):∀ m,k<=m->ck C n I m=ck C n I k:=by
 intro m hm;induction m with
 | zero=>
  obtain rfl:k=0:=by omega
  rfl
 | succ m ih=>
  by_cases e:k=m+1
  · subst e;rfl
  · have e2:=ih (by omega);rw [ck,e2,if_pos h]
theorem Hm{C:Nat->Clm}{n:Nat}{I:Nat->Itm}:∀ {k:Nat} {d:Int},ex I k=ς d->(ck C n I k).2=0->(((ck C n I k).1.length:Nat):Int)=d:=by
 intro k;induction k with
 | zero=>intro d h _;simp [ex] at h;simp [ck,h]
 | succ k ih=>
  intro d h h0;rw [ex] at h;split at h
  · cases h
  ·
   rename_i x hx
   split at h
   ·
    rename_i hc
    cases h
    rw [ck] at h0 ⊢;split at h0
    ·
     rename_i hf
     exact absurd h0 hf
    ·
     rename_i hf
     rw [if_neg hf];split at h0
     ·
      rename_i hg
      exact absurd h0 hg
     ·
      rename_i hg
      rw [if_neg hg];have:=ih hx (by simpa using hf);have ha:=FP (I k).o;have hl:=CV (I k).o;simp only [VJ,VY,List.length_cons,List.length_nil]
      omega
   · cases h
def By(L:List Int):List VN:=L.map (λx=>ι κ x)
