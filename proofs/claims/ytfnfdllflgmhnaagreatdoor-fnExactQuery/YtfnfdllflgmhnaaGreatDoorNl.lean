import Derived.Test.YtfnfdllflgmhnaaGreatDoorNlx
open Go renaming Calls → XR, World → ο
open Go.Ending renaming returned → ρ
open Go.IntKind renaming i64 → κ
open Go.Obj renaming cells → γ
open Go.Proofs.Tryz renaming prog → μ
open Go.RowKit renaming Below → υ, intOf → XX
open Go.RowKit.Below renaming refl → Xa
open Go.Value renaming agg → χ, bool → β, int → ι, slice → σ, string → τ
open Option renaming some → ς
open Or renaming inl → Xc
namespace Go.Proofs.YtfnfdllflgmhnaaGreatDoor
open Go.RowKit Go.Maps Go.WideMaps
set_option maxRecDepth 20000
set_option maxHeartbeats 4000000
theorem D6{n:Nat}{p:Nat->Bool}(h:n=0∨20<n):(Bb n 1 20 && Aw n p)=false:=by
 have:Bb n 1 20=false:=by simp [Bb];omega
 rw [this];rfl
theorem JJ{n:Nat}{p:Nat->Bool}(h:∀ j,j<n->p j=true)(h0:0<n)(hm:n<=20):(Bb n 1 20 && Aw n p)=true:=by
 rw [Fg h (λ_=>hm)];simp [h0]
theorem Eo(b:Nat)(a:Option Addr)(n c:Nat)(C:Nat->Clm)(w:ο)(hK:KwAt w b)(h:CL w a n C)(hn:n<=1048576) :
 XR μ 109 #[σ a n c,ι κ 20,.func (.func 110) #[.map (ς b)] #[]] w λe w'=>e=ρ (β (Bb n 1 20 && Aw n (λj=>Bx (C j).s (C j).t)))/\υ w.heap.size w w':=by
 have hb0:=Xa w.heap.size w;go_enter Tryz.func109,Tryz.ntmps109
 by_cases h0:n=0
 ·
  subst h0;go_wp2;go_ret
  exact⟨AM (D6 (by omega)).symm,hb0⟩
 have h0':((n:Int) == 0)=false:=by simp;omega
 by_cases h20:20<n
 ·
  have h20':(20:Int)<n:=by omega
  go_wp2;go_ret
  exact⟨AM (D6 (by omega)).symm,hb0⟩
 have h20':(n:Int)<=20:=by omega
 go_wp2;go_loopw [20] (λi wr=>∃ k:Nat,k<=n/\i=ι κ k/\(∀ j,j<k->Bx (C j).s (C j).t=true)/\υ w.heap.size w wr) (λi _=>n - (XX i).toNat)
 case atStart=>exact⟨0,by omega,rfl,λj hj=>by omega,hb0⟩
 case round=>
  obtain⟨j,hj,rfl,hall,hb2⟩:=hrel;by_cases hlt:j<n
  ·
   obtain⟨b',off,rfl,d0,d1,hs⟩:=h.later hb2 j hlt;have hK2:=hK.later (AA hb2 (AE wr (γ #[τ (C j).s,ι κ (C j).t] 92)));go_wp2_with (go_at_call 110;refine(Pr b _ _ _ hK2 hs).mono ?_;rintro e w3 ⟨rfl,hb3⟩;replace hb3:=bj hb2 hb3;rcases ho:Bx (C j).s (C j).t)
   ·
    go_ret
    exact⟨AM (Da hlt (Xc ho)).symm,hb3⟩
   ·
    go_roundw
    case rel=>exact⟨j+1,by omega,by go_num,λi hi=>by
     by_cases e:i=j
     · subst e;exact ho
     · exact hall i (by omega),hb3⟩
    case measure=>simp [XX];omega
  ·
   obtain rfl:j=n:=by omega
   go_wp2;go_ret
   exact⟨AM (JJ hall (by omega) (by omega)).symm,hb2⟩
theorem Pu(a:Option Addr)(n c:Nat)(V:Nat->Itm)(w:ο)(h:IL w a n V)(hn:n<=1048576) :
 XR μ 111 #[σ a n c,ι κ 20,.func (.func 112) #[] #[]] w λe w'=>e=ρ (β (Bb n 1 20 && Aw n (λj=>Ap (V j).o (V j).m (V j).s)))/\υ w.heap.size w w':=by
 have hb0:=Xa w.heap.size w;go_enter Tryz.func111,Tryz.ntmps111
 by_cases h0:n=0
 ·
  subst h0;go_wp2;go_ret
  exact⟨AM (D6 (by omega)).symm,hb0⟩
 have h0':((n:Int) == 0)=false:=by simp;omega
 by_cases h20:20<n
 ·
  have h20':(20:Int)<n:=by omega
  go_wp2;go_ret
  exact⟨AM (D6 (by omega)).symm,hb0⟩
 have h20':(n:Int)<=20:=by omega
 go_wp2;go_loopw [20] (λi wr=>∃ k:Nat,k<=n/\i=ι κ k/\(∀ j,j<k->Ap (V j).o (V j).m (V j).s=true)/\υ w.heap.size w wr) (λi _=>n - (XX i).toNat)
 case atStart=>exact⟨0,by omega,rfl,λj hj=>by omega,hb0⟩
 case round=>
  obtain⟨j,hj,rfl,hall,hb2⟩:=hrel;by_cases hlt:j<n
  ·
   obtain⟨b',off,rfl,d0,d1,d2,hs⟩:=h.later hb2 j hlt;go_wp2_with (go_at_call 112;refine(Hd _ _ _ _ hs).mono ?_;rintro e w3 ⟨rfl,hb3⟩;replace hb3:=bj hb2 hb3;rcases ho:Ap (V j).o (V j).m (V j).s)
   ·
    go_ret
    exact⟨AM (Da hlt (Xc ho)).symm,hb3⟩
   ·
    go_roundw
    case rel=>exact⟨j+1,by omega,by go_num,λi hi=>by
     by_cases e:i=j
     · subst e;exact ho
     · exact hall i (by omega),hb3⟩
    case measure=>simp [XX];omega
  ·
   obtain rfl:j=n:=by omega
   go_wp2;go_ret
   exact⟨AM (JJ hall (by omega) (by omega)).symm,hb2⟩
theorem Pv(b:Nat)(a:Option Addr)(n c:Nat)(m:Nat->Nat)(O:Nat->Nat->Itm)(w:ο)(hK:KwAt w b)(h:OL w a n m O)(hn:n<=1048576) :
 XR μ 115 #[σ a n c,ι κ 20,.func (.func 113) #[.map (ς b)] #[]] w λe w'=>e=ρ (β (Bb n 1 20 && Aw n (λj=>Ag (O j) (m j))))/\υ w.heap.size w w':=by
 have hb0:=Xa w.heap.size w;go_enter Tryz.func115,Tryz.ntmps115
 by_cases h0:n=0
 ·
  subst h0;go_wp2;go_ret
  exact⟨AM (D6 (by omega)).symm,hb0⟩
 have h0':((n:Int) == 0)=false:=by simp;omega
 by_cases h20:20<n
 ·
  have h20':(20:Int)<n:=by omega
  go_wp2;go_ret
  exact⟨AM (D6 (by omega)).symm,hb0⟩
 have h20':(n:Int)<=20:=by omega
 go_wp2;go_loopw [20] (λi wr=>∃ k:Nat,k<=n/\i=ι κ k/\(∀ j,j<k->Ag (O j) (m j)=true)/\υ w.heap.size w wr) (λi _=>n - (XX i).toNat)
 case atStart=>exact⟨0,by omega,rfl,λj hj=>by omega,hb0⟩
 case round=>
  obtain⟨j,hj,rfl,hall,hb2⟩:=hrel;by_cases hlt:j<n
  ·
   obtain⟨b',off,i,c',rfl,d0,di,dm⟩:=h.later hb2 j hlt;have hK2:=hK.later hb2;go_wp2_with (go_at_call 113;refine(NN b i _ c' _ _ hK2 di dm).mono ?_;rintro e w3 ⟨rfl,hb3⟩;replace hb3:=AA hb2 hb3;rcases ho:Ag (O j) (m j))
   ·
    go_ret
    exact⟨AM (Da hlt (Xc ho)).symm,hb3⟩
   ·
    go_roundw
    case rel=>exact⟨j+1,by omega,by go_num,λi hi=>by
     by_cases e:i=j
     · subst e;exact ho
     · exact hall i (by omega),hb3⟩
    case measure=>simp [XX];omega
  ·
   obtain rfl:j=n:=by omega
   go_wp2;go_ret
   exact⟨AM (JJ hall (by omega) (by omega)).symm,hb2⟩
def By(n2 n3:Nat)(col:ByteArray)(n5 n6 n7:Nat):Bool:=(n2:Int) == 0 && (n3:Int) == 0 && decide (col.size=0) && (n5:Int) == 0 && (n6:Int) == 0 && (n7:Int) == 0
theorem If(k:Int)(tb:ByteArray)(a2:Option Addr)(n2 c2:Nat)(a3:Option Addr)(n3 c3:Nat)(col:ByteArray)(a5:Option Addr)(n5 c5:Nat)(a6:Option Addr)(n6 c6:Nat)(a7:Option Addr)(n7 c7:Nat)(w:ο) :
 XR μ 108 #[χ #[ι κ k,τ tb,σ a2 n2 c2,σ a3 n3 c3,τ col,σ a5 n5 c5,σ a6 n6 c6,σ a7 n7 c7]] w λe w'=>e=ρ (β (By n2 n3 col n5 n6 n7))/\υ w.heap.size w w':=by
 have hE:=Ib col;go_enter Tryz.func108,Tryz.ntmps108
 go_wp2;all_goals
  go_ret
  exact⟨AM (by simp [By, *]),AE _ _⟩
set_option maxHeartbeats 8000000
theorem Tk(n:Nat):((n:Int) == 0)=decide (n=0):=by rw [Bool.eq_iff_iff];simp
theorem VV(n:Nat):((n:Int) != 0)=!decide (n=0):=by rw [bne,Tk]
theorem T7(D:St)(e:D.k=1):AL D=(AV D.tb && (By 0 D.n3 D.col D.n5 D.n6 D.n7 && (Bb D.n2 1 20 && Aw D.n2 (λj=>Bx (D.C j).s (D.C j).t)))):=by
 simp only [AL,F9,A6,e,By,Tk,VV]
 by_cases h1:D.n3=0 <;> by_cases h2:D.col.size=0 <;> by_cases h3:D.n5=0 <;> by_cases h4:D.n6=0 <;> by_cases h5:D.n7=0 <;> simp [h1,h2,h3,h4,h5]
theorem T6(D:St)(e:D.k=2):AL D=(AV D.tb && (By D.n2 0 D.col D.n5 D.n6 D.n7 && (Bb D.n3 1 20 && Aw D.n3 (λj=>Ap (D.V j).o (D.V j).m (D.V j).s)))):=by
 simp only [AL,F9,A6,e,By,Tk,VV]
 by_cases h1:D.n2=0 <;> by_cases h2:D.col.size=0 <;> by_cases h3:D.n5=0 <;> by_cases h4:D.n6=0 <;> by_cases h5:D.n7=0 <;> simp [h1,h2,h3,h4,h5]
theorem T5(D:St)(e:D.k=3):AL D=(AV D.tb && (By D.n2 D.n3 ⟨#[]⟩ 0 0 D.n7 && (AV D.col && Ag D.E D.n5 && AR D.W D.n6))):=by
 have z:(⟨#[]⟩:ByteArray).size=0:=rfl;simp only [AL,F9,A6,e,By,Tk,VV,z]
 by_cases h1:D.n2=0 <;> by_cases h2:D.n3=0 <;> by_cases h3:D.n7=0 <;> simp [h1,h2,h3]
theorem T4(D:St)(e:D.k=4):AL D=(AV D.tb && (By D.n2 D.n3 D.col D.n5 0 D.n7 && AR D.W D.n6)):=by
 simp only [AL,F9,A6,e,By,Tk,VV]
 by_cases h1:D.n2=0 <;> by_cases h2:D.n3=0 <;> by_cases h3:D.n7=0 <;> by_cases h4:D.col.size=0 <;> by_cases h5:D.n5=0 <;> simp [h1,h2,h3,h4,h5]
theorem T3(D:St)(e:D.k=5):AL D=(AV D.tb && (By D.n2 D.n3 D.col D.n5 0 0 && ((Bb D.n7 1 20 && Aw D.n7 (λj=>Ag (D.O j) (D.m7 j))) && AR D.W D.n6))):=by
 simp only [AL,F9,A6,e,By,Tk,VV]
 by_cases h1:D.n2=0 <;> by_cases h2:D.n3=0 <;> by_cases h4:D.col.size=0 <;> by_cases h5:D.n5=0 <;> simp [h1,h2,h4,h5]
theorem OT(D:St)(e1:¬D.k=1)(e2:¬D.k=2)(e3:¬D.k=3)(e4:¬D.k=4)(e5:¬D.k=5):AL D=false:=by
 simp [AL,A6,e1,e2,e3,e4,e5]
theorem Vi(tb:ByteArray)(n2:Nat)(C:Nat->Clm)(n3:Nat)(V:Nat->Itm)(col:ByteArray)(n5:Nat)(E:Nat->Itm)(n6:Nat)(W:Nat->Itm)(n7:Nat)(m7:Nat->Nat)(O:Nat->Nat->Itm)
 (a2:Option Addr) (c2:Nat) (a3:Option Addr) (c3:Nat) (a5:Option Addr) (c5:Nat) (a6:Option Addr) (c6:Nat) (a7:Option Addr) (c7:Nat) (D:St) (hD:(⟨1,tb,n2,C,n3,V,col,n5,E,n6,W,n7,m7,O⟩:St)=D)
 (w:ο) (h:SM w ⟨1,tb,n2,C,n3,V,col,n5,E,n6,W,n7,m7,O⟩ ⟨a2,c2,a3,c3,a5,c5,a6,c6,a7,c7⟩) (hT:SpT w) :
 XR μ 54 #[χ #[ι κ 1,τ tb,σ a2 n2 c2,σ a3 n3 c3,τ col,σ a5 n5 c5,σ a6 n6 c6,σ a7 n7 c7]] w λe w'=>e=ρ (β (AL D))/\υ w.heap.size w w':=by
 have hb0:=AE w (γ #[ι κ 1,τ tb,σ a2 n2 c2,σ a3 n3 c3,τ col,σ a5 n5 c5,σ a6 n6 c6,σ a7 n7 c7] 64);have H0:=h.later hb0;have q0:B8 (w.alloc (γ #[ι κ 1,τ tb,σ a2 n2 c2,σ a3 n3 c3,τ col,σ a5 n5 c5,σ a6 n6 c6,σ a7 n7 c7] 64)) w.heap.size ⟨1,tb,n2,C,n3,V,col,n5,E,n6,W,n7,m7,O⟩ ⟨a2,c2,a3,c3,a5,c5,a6,c6,a7,c7⟩:=B8.new w ⟨1,tb,n2,C,n3,V,col,n5,E,n6,W,n7,m7,O⟩ ⟨a2,c2,a3,c3,a5,c5,a6,c6,a7,c7⟩ 64;obtain⟨htb,hcol,-,-,-,-,-,l2,l3,l5,l6,l7⟩:=id h;dsimp only at htb hcol l2 l3 l5 l6 l7
 have HR:Hid (AL D=(AV tb && (By 0 n3 col n5 n6 n7 && (Bb n2 1 20 && Aw n2 (λj=>Bx (C j).s (C j).t))))):=(hD ▸ T7 ⟨1,tb,n2,C,n3,V,col,n5,E,n6,W,n7,m7,O⟩ rfl);clear hD;go_enter Tryz.func54,Tryz.ntmps54
 go_upto_region 4 with (first | (go_at_call 103;refine(CM _ (hT.later hb0)).mono ?_;rintro e w1 ⟨kb,rfl,hK1,hb1⟩;have H1:=H0.later hb1;have Q1:=q0.later hb1;have q1':=Q1.c1;dsimp only at q1';replace hb1:=AA hb0 hb1) | (go_at_call 107;refine(DD kb tb _ hK1 htb).mono ?_;rintro e w2 ⟨rfl,hb2⟩;have hK2:=hK1.later hb2;have H2:=H1.later hb2;have Q2:=Q1.later hb2;obtain⟨q0,q1,q2,q3,q4,q5,q6,q7⟩:=id Q2;dsimp only at q0 q1 q2 q3 q4 q5 q6 q7;replace hb2:=AA hb1 hb2;rcases hnm:AV tb))
 ·
  go_ret
  exact⟨AM (by rw [HR.out];simp [hnm]),hb2⟩
 go_wp2_with (first | (go_at_call 108;refine(If _ _ _ _ _ _ _ _ _ _ _ _ _ _ _ _ _ _ _).mono ?_;rintro e w3 ⟨rfl,hb3⟩;have hK3:=hK2.later (B0 hb3);have H3:=H2.later (B0 hb3);have Q3:=Q2.later (B0 hb3);obtain⟨r0,r1,r2,r3,r4,r5,r6,r7⟩:=id Q3;dsimp only at r0 r1 r2 r3 r4 r5 r6 r7;replace hb3:=AA hb2 (B0 hb3);rcases hbr:By 0 n3 col n5 n6 n7) | (go_at_call 109;refine(Eo kb a2 n2 c2 C _ hK3 H3.co l2).mono ?_;rintro e w4 ⟨rfl,hb4⟩;replace hb4:=AA hb3 hb4))
 ·
  go_ret
  exact⟨AM (by rw [HR.out];simp [hbr]),hb3⟩
 ·
  go_ret
  exact⟨AM (by rw [HR.out];simp [hbr,hnm]),hb4⟩
theorem Vh(tb:ByteArray)(n2:Nat)(C:Nat->Clm)(n3:Nat)(V:Nat->Itm)(col:ByteArray)(n5:Nat)(E:Nat->Itm)(n6:Nat)(W:Nat->Itm)(n7:Nat)(m7:Nat->Nat)(O:Nat->Nat->Itm)
 (a2:Option Addr) (c2:Nat) (a3:Option Addr) (c3:Nat) (a5:Option Addr) (c5:Nat) (a6:Option Addr) (c6:Nat) (a7:Option Addr) (c7:Nat) (D:St) (hD:(⟨2,tb,n2,C,n3,V,col,n5,E,n6,W,n7,m7,O⟩:St)=D)
 (w:ο) (h:SM w ⟨2,tb,n2,C,n3,V,col,n5,E,n6,W,n7,m7,O⟩ ⟨a2,c2,a3,c3,a5,c5,a6,c6,a7,c7⟩) (hT:SpT w) :
 XR μ 54 #[χ #[ι κ 2,τ tb,σ a2 n2 c2,σ a3 n3 c3,τ col,σ a5 n5 c5,σ a6 n6 c6,σ a7 n7 c7]] w λe w'=>e=ρ (β (AL D))/\υ w.heap.size w w':=by
 have hb0:=AE w (γ #[ι κ 2,τ tb,σ a2 n2 c2,σ a3 n3 c3,τ col,σ a5 n5 c5,σ a6 n6 c6,σ a7 n7 c7] 64);have H0:=h.later hb0;have q0:B8 (w.alloc (γ #[ι κ 2,τ tb,σ a2 n2 c2,σ a3 n3 c3,τ col,σ a5 n5 c5,σ a6 n6 c6,σ a7 n7 c7] 64)) w.heap.size ⟨2,tb,n2,C,n3,V,col,n5,E,n6,W,n7,m7,O⟩ ⟨a2,c2,a3,c3,a5,c5,a6,c6,a7,c7⟩:=B8.new w ⟨2,tb,n2,C,n3,V,col,n5,E,n6,W,n7,m7,O⟩ ⟨a2,c2,a3,c3,a5,c5,a6,c6,a7,c7⟩ 64;obtain⟨htb,hcol,-,-,-,-,-,l2,l3,l5,l6,l7⟩:=id h;dsimp only at htb hcol l2 l3 l5 l6 l7
 have HR:Hid (AL D=(AV tb && (By n2 0 col n5 n6 n7 && (Bb n3 1 20 && Aw n3 (λj=>Ap (V j).o (V j).m (V j).s))))):=(hD ▸ T6 ⟨2,tb,n2,C,n3,V,col,n5,E,n6,W,n7,m7,O⟩ rfl);clear hD;go_enter Tryz.func54,Tryz.ntmps54
 go_upto_region 4 with (first | (go_at_call 103;refine(CM _ (hT.later hb0)).mono ?_;rintro e w1 ⟨kb,rfl,hK1,hb1⟩;have H1:=H0.later hb1;have Q1:=q0.later hb1;have q1':=Q1.c1;dsimp only at q1';replace hb1:=AA hb0 hb1) | (go_at_call 107;refine(DD kb tb _ hK1 htb).mono ?_;rintro e w2 ⟨rfl,hb2⟩;have hK2:=hK1.later hb2;have H2:=H1.later hb2;have Q2:=Q1.later hb2;obtain⟨q0,q1,q2,q3,q4,q5,q6,q7⟩:=id Q2;dsimp only at q0 q1 q2 q3 q4 q5 q6 q7;replace hb2:=AA hb1 hb2;rcases hnm:AV tb))
 ·
  go_ret
  exact⟨AM (by rw [HR.out];simp [hnm]),hb2⟩
 go_wp2_with (first | (go_at_call 108;refine(If _ _ _ _ _ _ _ _ _ _ _ _ _ _ _ _ _ _ _).mono ?_;rintro e w3 ⟨rfl,hb3⟩;have hK3:=hK2.later (B0 hb3);have H3:=H2.later (B0 hb3);have Q3:=Q2.later (B0 hb3);obtain⟨r0,r1,r2,r3,r4,r5,r6,r7⟩:=id Q3;dsimp only at r0 r1 r2 r3 r4 r5 r6 r7;replace hb3:=AA hb2 (B0 hb3);rcases hbr:By n2 0 col n5 n6 n7) | (go_at_call 111;refine(Pu a3 n3 c3 V _ H3.va l3).mono ?_;rintro e w4 ⟨rfl,hb4⟩;replace hb4:=AA hb3 hb4))
 ·
  go_ret
  exact⟨AM (by rw [HR.out];simp [hbr]),hb3⟩
 ·
  go_ret
  exact⟨AM (by rw [HR.out];simp [hbr,hnm]),hb4⟩
theorem Vg(tb:ByteArray)(n2:Nat)(C:Nat->Clm)(n3:Nat)(V:Nat->Itm)(col:ByteArray)(n5:Nat)(E:Nat->Itm)(n6:Nat)(W:Nat->Itm)(n7:Nat)(m7:Nat->Nat)(O:Nat->Nat->Itm)
 (a2:Option Addr) (c2:Nat) (a3:Option Addr) (c3:Nat) (a5:Option Addr) (c5:Nat) (a6:Option Addr) (c6:Nat) (a7:Option Addr) (c7:Nat) (D:St) (hD:(⟨3,tb,n2,C,n3,V,col,n5,E,n6,W,n7,m7,O⟩:St)=D)
 (w:ο) (h:SM w ⟨3,tb,n2,C,n3,V,col,n5,E,n6,W,n7,m7,O⟩ ⟨a2,c2,a3,c3,a5,c5,a6,c6,a7,c7⟩) (hT:SpT w) :
 XR μ 54 #[χ #[ι κ 3,τ tb,σ a2 n2 c2,σ a3 n3 c3,τ col,σ a5 n5 c5,σ a6 n6 c6,σ a7 n7 c7]] w λe w'=>e=ρ (β (AL D))/\υ w.heap.size w w':=by
 have hb0:=AE w (γ #[ι κ 3,τ tb,σ a2 n2 c2,σ a3 n3 c3,τ col,σ a5 n5 c5,σ a6 n6 c6,σ a7 n7 c7] 64);have H0:=h.later hb0;have q0:B8 (w.alloc (γ #[ι κ 3,τ tb,σ a2 n2 c2,σ a3 n3 c3,τ col,σ a5 n5 c5,σ a6 n6 c6,σ a7 n7 c7] 64)) w.heap.size ⟨3,tb,n2,C,n3,V,col,n5,E,n6,W,n7,m7,O⟩ ⟨a2,c2,a3,c3,a5,c5,a6,c6,a7,c7⟩:=B8.new w ⟨3,tb,n2,C,n3,V,col,n5,E,n6,W,n7,m7,O⟩ ⟨a2,c2,a3,c3,a5,c5,a6,c6,a7,c7⟩ 64;obtain⟨htb,hcol,-,-,-,-,-,l2,l3,l5,l6,l7⟩:=id h;dsimp only at htb hcol l2 l3 l5 l6 l7
 have HR:Hid (AL D=(AV tb && (By n2 n3 ⟨#[]⟩ 0 0 n7 && (AV col && Ag E n5 && AR W n6)))):=(hD ▸ T5 ⟨3,tb,n2,C,n3,V,col,n5,E,n6,W,n7,m7,O⟩ rfl);clear hD;go_enter Tryz.func54,Tryz.ntmps54
 go_upto_region 4 with (first | (go_at_call 103;refine(CM _ (hT.later hb0)).mono ?_;rintro e w1 ⟨kb,rfl,hK1,hb1⟩;have H1:=H0.later hb1;have Q1:=q0.later hb1;have q1':=Q1.c1;dsimp only at q1';replace hb1:=AA hb0 hb1) | (go_at_call 107;refine(DD kb tb _ hK1 htb).mono ?_;rintro e w2 ⟨rfl,hb2⟩;have hK2:=hK1.later hb2;have H2:=H1.later hb2;have Q2:=Q1.later hb2;obtain⟨q0,q1,q2,q3,q4,q5,q6,q7⟩:=id Q2;dsimp only at q0 q1 q2 q3 q4 q5 q6 q7;replace hb2:=AA hb1 hb2;rcases hnm:AV tb))
 ·
  go_ret
  exact⟨AM (by rw [HR.out];simp [hnm]),hb2⟩
 go_wp2_with (first | (go_at_call 108;refine(If _ _ _ _ _ _ _ _ _ _ _ _ _ _ _ _ _ _ _).mono ?_;rintro e w3 ⟨rfl,hb3⟩;have hK3:=hK2.later (B0 hb3);have H3:=H2.later (B0 hb3);have Q3:=Q2.later (B0 hb3);obtain⟨r0,r1,r2,r3,r4,r5,r6,r7⟩:=id Q3;dsimp only at r0 r1 r2 r3 r4 r5 r6 r7;replace hb3:=AA hb2 (B0 hb3);rcases hbr:By n2 n3 ⟨#[]⟩ 0 0 n7) | (go_at_call 107;refine(DD kb col _ hK3 hcol).mono ?_;rintro e w4 ⟨rfl,hb4⟩;have hK4:=hK3.later hb4;have H4:=H3.later hb4;have s5:=AB hb4 r5;have s6:=AB hb4 r6;replace hb4:=AA hb3 hb4;rcases hcn:AV col) | (go_at_call 113;refine(NN kb a5 n5 c5 E _ hK4 H4.ex l5).mono ?_;rintro e w5 ⟨rfl,hb5⟩;have hK5:=hK4.later hb5;have H5:=H4.later hb5;have u6:=AB hb5 s6;replace hb5:=AA hb4 hb5;rcases hx:Ag E n5) | (go_at_call 114;refine(NO kb a6 n6 c6 W _ hK5 H5.wh l6).mono ?_;rintro e w6 ⟨rfl,hb6⟩;replace hb6:=AA hb5 hb6))
 ·
  go_ret
  exact⟨AM (by rw [HR.out];simp [hbr]),hb3⟩
 ·
  go_ret
  exact⟨AM (by rw [HR.out];simp [hcn]),hb4⟩
 ·
  go_ret
  exact⟨AM (by rw [HR.out];simp [hx]),hb5⟩
 ·
  go_ret
  exact⟨AM (by rw [HR.out];simp [hbr,hnm,hcn,hx]),hb6⟩
theorem Vf(tb:ByteArray)(n2:Nat)(C:Nat->Clm)(n3:Nat)(V:Nat->Itm)(col:ByteArray)(n5:Nat)(E:Nat->Itm)(n6:Nat)(W:Nat->Itm)(n7:Nat)(m7:Nat->Nat)(O:Nat->Nat->Itm)
 (a2:Option Addr) (c2:Nat) (a3:Option Addr) (c3:Nat) (a5:Option Addr) (c5:Nat) (a6:Option Addr) (c6:Nat) (a7:Option Addr) (c7:Nat) (D:St) (hD:(⟨4,tb,n2,C,n3,V,col,n5,E,n6,W,n7,m7,O⟩:St)=D)
 (w:ο) (h:SM w ⟨4,tb,n2,C,n3,V,col,n5,E,n6,W,n7,m7,O⟩ ⟨a2,c2,a3,c3,a5,c5,a6,c6,a7,c7⟩) (hT:SpT w) :
 XR μ 54 #[χ #[ι κ 4,τ tb,σ a2 n2 c2,σ a3 n3 c3,τ col,σ a5 n5 c5,σ a6 n6 c6,σ a7 n7 c7]] w λe w'=>e=ρ (β (AL D))/\υ w.heap.size w w':=by
 have hb0:=AE w (γ #[ι κ 4,τ tb,σ a2 n2 c2,σ a3 n3 c3,τ col,σ a5 n5 c5,σ a6 n6 c6,σ a7 n7 c7] 64);have H0:=h.later hb0;have q0:B8 (w.alloc (γ #[ι κ 4,τ tb,σ a2 n2 c2,σ a3 n3 c3,τ col,σ a5 n5 c5,σ a6 n6 c6,σ a7 n7 c7] 64)) w.heap.size ⟨4,tb,n2,C,n3,V,col,n5,E,n6,W,n7,m7,O⟩ ⟨a2,c2,a3,c3,a5,c5,a6,c6,a7,c7⟩:=B8.new w ⟨4,tb,n2,C,n3,V,col,n5,E,n6,W,n7,m7,O⟩ ⟨a2,c2,a3,c3,a5,c5,a6,c6,a7,c7⟩ 64;obtain⟨htb,hcol,-,-,-,-,-,l2,l3,l5,l6,l7⟩:=id h;dsimp only at htb hcol l2 l3 l5 l6 l7
 have HR:Hid (AL D=(AV tb && (By n2 n3 col n5 0 n7 && AR W n6))):=(hD ▸ T4 ⟨4,tb,n2,C,n3,V,col,n5,E,n6,W,n7,m7,O⟩ rfl);clear hD;go_enter Tryz.func54,Tryz.ntmps54
 go_upto_region 4 with (first | (go_at_call 103;refine(CM _ (hT.later hb0)).mono ?_;rintro e w1 ⟨kb,rfl,hK1,hb1⟩;have H1:=H0.later hb1;have Q1:=q0.later hb1;have q1':=Q1.c1;dsimp only at q1';replace hb1:=AA hb0 hb1) | (go_at_call 107;refine(DD kb tb _ hK1 htb).mono ?_;rintro e w2 ⟨rfl,hb2⟩;have hK2:=hK1.later hb2;have H2:=H1.later hb2;have Q2:=Q1.later hb2;obtain⟨q0,q1,q2,q3,q4,q5,q6,q7⟩:=id Q2;dsimp only at q0 q1 q2 q3 q4 q5 q6 q7;replace hb2:=AA hb1 hb2;rcases hnm:AV tb))
 ·
  go_ret
  exact⟨AM (by rw [HR.out];simp [hnm]),hb2⟩
 go_wp2_with (first | (go_at_call 108;refine(If _ _ _ _ _ _ _ _ _ _ _ _ _ _ _ _ _ _ _).mono ?_;rintro e w3 ⟨rfl,hb3⟩;have hK3:=hK2.later (B0 hb3);have H3:=H2.later (B0 hb3);have Q3:=Q2.later (B0 hb3);obtain⟨r0,r1,r2,r3,r4,r5,r6,r7⟩:=id Q3;dsimp only at r0 r1 r2 r3 r4 r5 r6 r7;replace hb3:=AA hb2 (B0 hb3);rcases hbr:By n2 n3 col n5 0 n7) | (go_at_call 114;refine(NO kb a6 n6 c6 W _ hK3 H3.wh l6).mono ?_;rintro e w6 ⟨rfl,hb6⟩;replace hb6:=AA hb3 hb6))
 ·
  go_ret
  exact⟨AM (by rw [HR.out];simp [hbr]),hb3⟩
 ·
  go_ret
  exact⟨AM (by rw [HR.out];simp [hbr,hnm]),hb6⟩
theorem RX(tb:ByteArray)(n2:Nat)(C:Nat->Clm)(n3:Nat)(V:Nat->Itm)(col:ByteArray)(n5:Nat)(E:Nat->Itm)(n6:Nat)(W:Nat->Itm)(n7:Nat)(m7:Nat->Nat)(O:Nat->Nat->Itm)
 (a2:Option Addr) (c2:Nat) (a3:Option Addr) (c3:Nat) (a5:Option Addr) (c5:Nat) (a6:Option Addr) (c6:Nat) (a7:Option Addr) (c7:Nat) (D:St) (hD:(⟨5,tb,n2,C,n3,V,col,n5,E,n6,W,n7,m7,O⟩:St)=D)
 (w:ο) (h:SM w ⟨5,tb,n2,C,n3,V,col,n5,E,n6,W,n7,m7,O⟩ ⟨a2,c2,a3,c3,a5,c5,a6,c6,a7,c7⟩) (hT:SpT w) :
 XR μ 54 #[χ #[ι κ 5,τ tb,σ a2 n2 c2,σ a3 n3 c3,τ col,σ a5 n5 c5,σ a6 n6 c6,σ a7 n7 c7]] w λe w'=>e=ρ (β (AL D))/\υ w.heap.size w w':=by
 have hb0:=AE w (γ #[ι κ 5,τ tb,σ a2 n2 c2,σ a3 n3 c3,τ col,σ a5 n5 c5,σ a6 n6 c6,σ a7 n7 c7] 64);have H0:=h.later hb0;have q0:B8 (w.alloc (γ #[ι κ 5,τ tb,σ a2 n2 c2,σ a3 n3 c3,τ col,σ a5 n5 c5,σ a6 n6 c6,σ a7 n7 c7] 64)) w.heap.size ⟨5,tb,n2,C,n3,V,col,n5,E,n6,W,n7,m7,O⟩ ⟨a2,c2,a3,c3,a5,c5,a6,c6,a7,c7⟩:=B8.new w ⟨5,tb,n2,C,n3,V,col,n5,E,n6,W,n7,m7,O⟩ ⟨a2,c2,a3,c3,a5,c5,a6,c6,a7,c7⟩ 64;obtain⟨htb,hcol,-,-,-,-,-,l2,l3,l5,l6,l7⟩:=id h;dsimp only at htb hcol l2 l3 l5 l6 l7
 have HR:Hid (AL D=(AV tb && (By n2 n3 col n5 0 0 && ((Bb n7 1 20 && Aw n7 (λj=>Ag (O j) (m7 j))) && AR W n6)))):=(hD ▸ T3 ⟨5,tb,n2,C,n3,V,col,n5,E,n6,W,n7,m7,O⟩ rfl);clear hD;go_enter Tryz.func54,Tryz.ntmps54
 go_upto_region 4 with (first | (go_at_call 103;refine(CM _ (hT.later hb0)).mono ?_;rintro e w1 ⟨kb,rfl,hK1,hb1⟩;have H1:=H0.later hb1;have Q1:=q0.later hb1;have q1':=Q1.c1;dsimp only at q1';replace hb1:=AA hb0 hb1) | (go_at_call 107;refine(DD kb tb _ hK1 htb).mono ?_;rintro e w2 ⟨rfl,hb2⟩;have hK2:=hK1.later hb2;have H2:=H1.later hb2;have Q2:=Q1.later hb2;obtain⟨q0,q1,q2,q3,q4,q5,q6,q7⟩:=id Q2;dsimp only at q0 q1 q2 q3 q4 q5 q6 q7;replace hb2:=AA hb1 hb2;rcases hnm:AV tb))
 ·
  go_ret
  exact⟨AM (by rw [HR.out];simp [hnm]),hb2⟩
 go_wp2_with (first | (go_at_call 108;refine(If _ _ _ _ _ _ _ _ _ _ _ _ _ _ _ _ _ _ _).mono ?_;rintro e w3 ⟨rfl,hb3⟩;have hK3:=hK2.later (B0 hb3);have H3:=H2.later (B0 hb3);have Q3:=Q2.later (B0 hb3);obtain⟨r0,r1,r2,r3,r4,r5,r6,r7⟩:=id Q3;dsimp only at r0 r1 r2 r3 r4 r5 r6 r7;replace hb3:=AA hb2 (B0 hb3);rcases hbr:By n2 n3 col n5 0 0) | (go_at_call 115;refine(Pv kb a7 n7 c7 m7 O _ hK3 H3.ou l7).mono ?_;rintro e w4 ⟨rfl,hb4⟩;have hK4:=hK3.later hb4;have H4:=H3.later hb4;have s6:=AB hb4 r6;replace hb4:=AA hb3 hb4;rcases hx:(Bb n7 1 20 && Aw n7 (λj=>Ag (O j) (m7 j)))) | (go_at_call 114;refine(NO kb a6 n6 c6 W _ hK4 H4.wh l6).mono ?_;rintro e w6 ⟨rfl,hb6⟩;replace hb6:=AA hb4 hb6))
 ·
  go_ret
  exact⟨AM (by rw [HR.out];simp [hbr]),hb3⟩
 ·
  go_ret
  exact⟨AM (by rw [HR.out,hx];simp),hb4⟩
 ·
  go_ret
  exact⟨AM (by rw [HR.out,hx,hbr,hnm];simp),hb6⟩
theorem Vj(k:Int)(e1:¬k=1)(e2:¬k=2)(e3:¬k=3)(e4:¬k=4)(e5:¬k=5)(tb:ByteArray)(n2:Nat)(C:Nat->Clm)(n3:Nat)(V:Nat->Itm)(col:ByteArray)(n5:Nat)(E:Nat->Itm)(n6:Nat)(W:Nat->Itm)(n7:Nat)(m7:Nat->Nat)(O:Nat->Nat->Itm)
 (a2:Option Addr) (c2:Nat) (a3:Option Addr) (c3:Nat) (a5:Option Addr) (c5:Nat) (a6:Option Addr) (c6:Nat) (a7:Option Addr) (c7:Nat) (D:St) (hD:(⟨k,tb,n2,C,n3,V,col,n5,E,n6,W,n7,m7,O⟩:St)=D)
 (w:ο) (h:SM w ⟨k,tb,n2,C,n3,V,col,n5,E,n6,W,n7,m7,O⟩ ⟨a2,c2,a3,c3,a5,c5,a6,c6,a7,c7⟩) (hT:SpT w) :
 XR μ 54 #[χ #[ι κ k,τ tb,σ a2 n2 c2,σ a3 n3 c3,τ col,σ a5 n5 c5,σ a6 n6 c6,σ a7 n7 c7]] w λe w'=>e=ρ (β (AL D))/\υ w.heap.size w w':=by
 have hb0:=AE w (γ #[ι κ k,τ tb,σ a2 n2 c2,σ a3 n3 c3,τ col,σ a5 n5 c5,σ a6 n6 c6,σ a7 n7 c7] 64);have H0:=h.later hb0;have q0:B8 (w.alloc (γ #[ι κ k,τ tb,σ a2 n2 c2,σ a3 n3 c3,τ col,σ a5 n5 c5,σ a6 n6 c6,σ a7 n7 c7] 64)) w.heap.size ⟨k,tb,n2,C,n3,V,col,n5,E,n6,W,n7,m7,O⟩ ⟨a2,c2,a3,c3,a5,c5,a6,c6,a7,c7⟩:=B8.new w ⟨k,tb,n2,C,n3,V,col,n5,E,n6,W,n7,m7,O⟩ ⟨a2,c2,a3,c3,a5,c5,a6,c6,a7,c7⟩ 64;obtain⟨htb,hcol,-,-,-,-,-,l2,l3,l5,l6,l7⟩:=id h;dsimp only at htb hcol l2 l3 l5 l6 l7
 have HR:Hid (AL D=false):=(hD ▸ OT ⟨k,tb,n2,C,n3,V,col,n5,E,n6,W,n7,m7,O⟩ e1 e2 e3 e4 e5);have e1':(k == 1)=false:=by simp [e1]
 have e2':(k == 2)=false:=by simp [e2]
 have e3':(k == 3)=false:=by simp [e3]
 have e4':(k == 4)=false:=by simp [e4]
 have e5':(k == 5)=false:=by simp [e5]
 clear hD;go_enter Tryz.func54,Tryz.ntmps54
 go_upto_region 4 with (first | (go_at_call 103;refine(CM _ (hT.later hb0)).mono ?_;rintro e w1 ⟨kb,rfl,hK1,hb1⟩;have H1:=H0.later hb1;have Q1:=q0.later hb1;have q1':=Q1.c1;dsimp only at q1';replace hb1:=AA hb0 hb1) | (go_at_call 107;refine(DD kb tb _ hK1 htb).mono ?_;rintro e w2 ⟨rfl,hb2⟩;have hK2:=hK1.later hb2;have H2:=H1.later hb2;have Q2:=Q1.later hb2;obtain⟨q0,q1,q2,q3,q4,q5,q6,q7⟩:=id Q2;dsimp only at q0 q1 q2 q3 q4 q5 q6 q7;replace hb2:=AA hb1 hb2;rcases hnm:AV tb))
 ·
  go_ret
  exact⟨AM (by rw [HR.out]),hb2⟩
 go_wp2;go_ret
 exact⟨AM (by rw [HR.out]),hb2⟩
theorem Wm(d:St)(p:Sa)(w:ο)(h:SM w d p)(hT:SpT w):XR μ 54 #[χ (Hv d p)] w λe w'=>e=ρ (β (AL d))/\υ w.heap.size w w':=by
 obtain⟨k,tb,n2,C,n3,V,col,n5,E,n6,W,n7,m7,O⟩:=d;obtain⟨a2,c2,a3,c3,a5,c5,a6,c6,a7,c7⟩:=p;by_cases e1:k=1
 · subst e1;exact Vi tb n2 C n3 V col n5 E n6 W n7 m7 O a2 c2 a3 c3 a5 c5 a6 c6 a7 c7 _ rfl w h hT
 by_cases e2:k=2
 · subst e2;exact Vh tb n2 C n3 V col n5 E n6 W n7 m7 O a2 c2 a3 c3 a5 c5 a6 c6 a7 c7 _ rfl w h hT
 by_cases e3:k=3
 · subst e3;exact Vg tb n2 C n3 V col n5 E n6 W n7 m7 O a2 c2 a3 c3 a5 c5 a6 c6 a7 c7 _ rfl w h hT
 by_cases e4:k=4
 · subst e4;exact Vf tb n2 C n3 V col n5 E n6 W n7 m7 O a2 c2 a3 c3 a5 c5 a6 c6 a7 c7 _ rfl w h hT
 by_cases e5:k=5
 · subst e5;exact RX tb n2 C n3 V col n5 E n6 W n7 m7 O a2 c2 a3 c3 a5 c5 a6 c6 a7 c7 _ rfl w h hT
 · exact Vj k e1 e2 e3 e4 e5 tb n2 C n3 V col n5 E n6 W n7 m7 O a2 c2 a3 c3 a5 c5 a6 c6 a7 c7 _ rfl w h hT
theorem JY(k:Int)(tb:ByteArray)(n2:Nat)(C:Nat->Clm)(n3:Nat)(V:Nat->Itm)(col:ByteArray)(n5:Nat)(E:Nat->Itm)(n6:Nat)(W:Nat->Itm)(n7:Nat)(m7:Nat->Nat)(O:Nat->Nat->Itm)
 (a2:Option Addr) (c2:Nat) (a3:Option Addr) (c3:Nat) (a5:Option Addr) (c5:Nat) (a6:Option Addr) (c6:Nat) (a7:Option Addr) (c7:Nat) (D:St) (hD:(⟨k,tb,n2,C,n3,V,col,n5,E,n6,W,n7,m7,O⟩:St)=D)
 (w:ο) (h:SM w ⟨k,tb,n2,C,n3,V,col,n5,E,n6,W,n7,m7,O⟩ ⟨a2,c2,a3,c3,a5,c5,a6,c6,a7,c7⟩) :
 XR μ 67 #[χ #[ι κ k,τ tb,σ a2 n2 c2,σ a3 n3 c3,τ col,σ a5 n5 c5,σ a6 n6 c6,σ a7 n7 c7]] w λe w'=>e=ρ (β (AL D))/\υ w.heap.size w w':=by
 have hb0:=AE w (γ #[ι κ k,τ tb,σ a2 n2 c2,σ a3 n3 c3,τ col,σ a5 n5 c5,σ a6 n6 c6,σ a7 n7 c7] 64);have H0:=h.later hb0;have q0:B8 (w.alloc (γ #[ι κ k,τ tb,σ a2 n2 c2,σ a3 n3 c3,τ col,σ a5 n5 c5,σ a6 n6 c6,σ a7 n7 c7] 64)) w.heap.size ⟨k,tb,n2,C,n3,V,col,n5,E,n6,W,n7,m7,O⟩ ⟨a2,c2,a3,c3,a5,c5,a6,c6,a7,c7⟩:=B8.new w ⟨k,tb,n2,C,n3,V,col,n5,E,n6,W,n7,m7,O⟩ ⟨a2,c2,a3,c3,a5,c5,a6,c6,a7,c7⟩ 64;have hE:=Ib col;obtain⟨htb,hcol,-,-,-,-,-,-,-,-,-,-⟩:=id h;dsimp only at htb hcol
 have hB:F9 D=((k != 1 && (n2:Int) != 0) || (k != 2 && (n3:Int) != 0) || (k != 3 && (!decide (col.size=0) || (n5:Int) != 0)) || (k != 5 && (n7:Int) != 0)):=by rw [←hD];rfl
 have hO1:AL D=(AV tb && !F9 D && !(decide (k<3) && (n6:Int) != 0) && A6 D):=by rw [←hD];rfl
 have hR1:Hid (k=1->A6 D=(Bb n2 1 20 && Aw n2 (λj=>Bx (C j).s (C j).t))):=λe=>by rw [←hD];simp [A6,e]
 have hR2:Hid (k=2->A6 D=(Bb n3 1 20 && Aw n3 (λj=>Ap (V j).o (V j).m (V j).s))):=λe=>by rw [←hD];simp [A6,e]
 have hR3:Hid (k=3->A6 D=(AV col && Ag E n5 && AR W n6)):=λe=>by rw [←hD];simp [A6,e]
 have hR4:Hid (k=4->A6 D=AR W n6):=λe=>by rw [←hD];simp [A6,e]
 have hR5:Hid (k=5->A6 D=(Bb n7 1 20 && Aw n7 (λj=>Ag (O j) (m7 j)) && AR W n6)):=λe=>by rw [←hD];simp [A6,e]
 have hR0:Hid (¬k=1->¬k=2->¬k=3->¬k=4->¬k=5->A6 D=false):=λe1 e2 e3 e4 e5=>by rw [←hD];simp [A6,e1,e2,e3,e4,e5]
 have HB:Hid (F9 D=_):=hB;have HO:Hid (AL D=_):=hO1;clear hB hD hO1;go_enter Tryz.func67,Tryz.ntmps67
 go_upto_region 4 with (go_at_call 126;refine(Dd _ _ htb).mono ?_;rintro e w1 ⟨rfl,hb1⟩;have H1:=H0.later hb1;have Q1:=q0.later hb1;obtain⟨q0,q1,q2,q3,q4,q5,q6,q7⟩:=id Q1;dsimp only at q0 q1 q2 q3 q4 q5 q6 q7;replace hb1:=hb0.trans (hb1.mono hb0.size);rcases hnm:AV tb)
 ·
  go_ret
  exact⟨AM (by rw [HO.out];simp [hnm]),hb1⟩
 go_cut [0,3,58] (λ_ v3 v wx=>v3=ι κ k/\v=β (F9 D)/\wx=w1)
 case first=>
  go_wp2;all_goals go_meet
  all_goals exact⟨by first | rfl | simp [*],congrArg Value.bool (by rw [HB.out];simp [*]),rfl⟩
 case rest=>
  obtain⟨rfl,rfl,rfl⟩:=hcut;obtain⟨-,-,hco,hva,hex,hwh,hou,l2,l3,l5,l6,l7⟩:=id H1;dsimp only at hco hva hex hwh hou l2 l3 l5 l6 l7
  rcases hbad:F9 D
  ·
   by_cases hk3:k<3
   ·
    by_cases e6:n6=0
    ·
     subst e6;by_cases e1:k=1
     ·
      subst e1;have HR:Hid (AL D=(Bb n2 1 20 && Aw n2 (λj=>Bx (C j).s (C j).t))):=by rw [Hid,HO.out,hbad,hR1.out rfl,hnm];simp
      clear hR1 hR2 hR3 hR4 hR5 hR0 HO HB hbad;go_wp2;go_loopw [2,5,73] (λ_ _ i wr=>∃ k:Nat,k<=n2/\i=ι κ k/\(0<k->n2<=20)/\(∀ j,j<k->Bx (C j).s (C j).t=true)/\υ wc.heap.size wc wr) (λ_ _ i _=>n2 - (XX i).toNat)
      case atStart=>exact⟨0,by omega,rfl,λhh=>by omega,λj hj=>by omega,Xa _ _⟩
      case round=>
       obtain⟨j,hj,rfl,hm,hall,hb2⟩:=hrel;have t2:=AB hb2 q2;by_cases hlt:j<n2
       ·
        obtain⟨b,off,rfl,d0,d1,hs⟩:=hco.later hb2 j hlt;have t3:=AB (AE wr (γ #[τ (C j).s,ι κ (C j).t] 92)) t2;go_wp2_with (first | (go_at_call 126;refine(Dd _ _ hs).mono ?_;rintro e w3 ⟨rfl,hb3⟩;obtain⟨f0,f1⟩:=Ia hb3;replace hb3:=bj hb2 hb3;rcases ho:AV (C j).s) | (go_at_call 127;refine(JW _ _).mono ?_;rintro e w4 ⟨rfl,rfl⟩;rcases ht:DR (C j).t))
        all_goals try (go_ret;first | (refine⟨AM (HR.out.trans (Da hlt ?_)).symm,hb1.trans (hb3.mono hb1.size)⟩;first | (right;omega) | (left;simp [Bx,ho];done) | (left;simp [Bx,ht];done)) | (refine⟨AM (HR.out.trans (Da hlt ?_)).symm,hb1.trans ((hb2.trans ((AE _ _).mono hb2.size)).mono hb1.size)⟩;right;omega))
        go_roundw
        case rel=>exact⟨j+1,by omega,by go_num,λ_=>by omega,λi hi=>by
         by_cases e:i=j
         · subst e;simp [Bx,ho,ht]
         · exact hall i (by omega),hb3⟩
        case measure=>simp [XX];omega
       ·
        obtain rfl:j=n2:=by omega
        go_wp2;go_ret
        exact⟨AM (HR.out.trans (Fg hall hm)).symm,hb1.trans (hb2.mono hb1.size)⟩
     ·
      by_cases e2:k=2
      ·
       subst e2;have HR:Hid (AL D=(Bb n3 1 20 && Aw n3 (λj=>Ap (V j).o (V j).m (V j).s))):=by rw [Hid,HO.out,hbad,hR2.out rfl,hnm];simp
       clear hR1 hR2 hR3 hR4 hR5 hR0 HO HB hbad;go_wp2;go_loopw [2,7,103] (λ_ _ i wr=>∃ k:Nat,k<=n3/\i=ι κ k/\(0<k->n3<=20)/\(∀ j,j<k->Ap (V j).o (V j).m (V j).s=true)/\υ wc.heap.size wc wr) (λ_ _ i _=>n3 - (XX i).toNat)
       case atStart=>exact⟨0,by omega,rfl,λhh=>by omega,λj hj=>by omega,Xa _ _⟩
       case round=>
        obtain⟨j,hj,rfl,hm,hall,hb2⟩:=hrel;have t2:=AB hb2 q3;by_cases hlt:j<n3
        ·
         obtain⟨b,off,rfl,d0,d1,d2,hs⟩:=hva.later hb2 j hlt;have t3:=AB (AE wr (γ #[ι κ (V j).o,ι κ (V j).m,τ (V j).s] 94)) t2;go_wp2_with (go_at_call 128;refine(Rs _ _ _ _ hs).mono ?_;rintro e w3 ⟨rfl,hb3⟩;replace hb3:=bj hb2 hb3;rcases ho:Ap (V j).o (V j).m (V j).s)
         all_goals try (go_ret;first | (refine⟨AM (HR.out.trans (Da hlt ?_)).symm,hb1.trans (hb3.mono hb1.size)⟩;first | (right;omega) | (left;exact ho)) | (refine⟨AM (HR.out.trans (Da hlt ?_)).symm,hb1.trans ((hb2.trans ((AE _ _).mono hb2.size)).mono hb1.size)⟩;right;omega))
         go_roundw
         case rel=>exact⟨j+1,by omega,by go_num,λ_=>by omega,λi hi=>by
          by_cases e:i=j
          · subst e;exact ho
          · exact hall i (by omega),hb3⟩
         case measure=>simp [XX];omega
        ·
         obtain rfl:j=n3:=by omega
         go_wp2;go_ret
         exact⟨AM (HR.out.trans (Fg hall hm)).symm,hb1.trans (hb2.mono hb1.size)⟩
      ·
       have HR:Hid (AL D=false):=by rw [Hid,HO.out,hR0.out e1 e2 (by omega) (by omega) (by omega)];simp
       clear hR1 hR2 hR3 hR4 hR5 hR0 HO HB hbad;go_wp2;go_ret
       exact⟨AM (by rw [HR.out]),hb1⟩
    ·
     have e6i:¬(n6:Int)=0:=by omega
     have HR:Hid (AL D=false):=by rw [Hid,HO.out];simp [hk3,e6]
     clear hR1 hR2 hR3 hR4 hR5 hR0 HO HB hbad;go_wp2;go_ret
     exact⟨AM (by rw [HR.out]),hb1⟩
   ·
    have hk3':3<=k:=by omega
    have HO3:Hid (AL D=A6 D):=by rw [Hid,HO.out,hbad,hnm];simp [hk3]
    clear hR1 hR2 HO HB hbad;by_cases e3:k=3
    ·
     subst e3;have HR:Hid (AL D=(AV col && Ag E n5 && AR W n6)):=HO3.out.trans (hR3.out rfl);clear hR3 hR4 hR5 hR0 HO3;go_wp2_with (first | (go_at_call 126;refine(Dd col _ hcol).mono ?_;rintro e w2 ⟨rfl,hb2⟩;have H2:=H1.later hb2;obtain⟨-,-,-,-,-,r5,r6,-⟩:=Q1.later hb2;dsimp only at r5 r6;replace hb2:=hb1.trans (hb2.mono hb1.size);rcases ho:AV col) | (go_at_call 129;refine(Ry a5 n5 c5 E _ H2.ex l5).mono ?_;rintro e w3 ⟨rfl,hb3⟩;have H3:=H2.later hb3;have s6:=AB hb3 r6;replace hb3:=hb2.trans (hb3.mono hb2.size);rcases hx:Ag E n5) | (go_at_call 130;refine(I4 a6 n6 c6 W _ H3.wh l6).mono ?_;rintro e w4 ⟨rfl,hb4⟩;replace hb4:=hb3.trans (hb4.mono hb3.size)))
     ·
      go_ret
      exact⟨AM (by rw [HR.out,ho];simp),hb2⟩
     ·
      go_ret
      exact⟨AM (by rw [HR.out,hx];simp),hb3⟩
     ·
      go_ret
      exact⟨AM (by rw [HR.out,ho,hx];simp),hb4⟩
    by_cases e4:k=4
    ·
     subst e4;have HR:Hid (AL D=AR W n6):=HO3.out.trans (hR4.out rfl);clear hR3 hR4 hR5 hR0 HO3;go_wp2_with (go_at_call 130;refine(I4 a6 n6 c6 W _ hwh l6).mono ?_;rintro e w4 ⟨rfl,hb4⟩;replace hb4:=hb1.trans (hb4.mono hb1.size))
     go_ret
     exact⟨AM (by rw [HR.out]),hb4⟩
    by_cases e5:k=5
    ·
     subst e5;have HR:Hid (AL D=((Bb n7 1 20 && Aw n7 (λj=>Ag (O j) (m7 j))) && AR W n6)):=HO3.out.trans (hR5.out rfl);clear hR3 hR4 hR5 hR0 HO3;go_wp2;go_loopw [2,9,146] (λ_ _ i wr=>∃ k:Nat,k<=n7/\i=ι κ k/\(0<k->n7<=20)/\(∀ j,j<k->Ag (O j) (m7 j)=true)/\υ wc.heap.size wc wr) (λ_ _ i _=>n7 - (XX i).toNat)
     case atStart=>exact⟨0,by omega,rfl,λhh=>by omega,λj hj=>by omega,Xa _ _⟩
     case round=>
      obtain⟨j,hj,rfl,hm,hall,hb2⟩:=hrel;have t2:=AB hb2 q7;have t6:=AB hb2 q6;by_cases hlt:j<n7
      ·
       obtain⟨b,off,i,c,rfl,d0,di,dm⟩:=hou.later hb2 j hlt;go_wp2_with (go_at_call 129;refine(Ry i _ c _ _ di dm).mono ?_;rintro e w3 ⟨rfl,hb3⟩;replace hb3:=hb2.trans (hb3.mono hb2.size);rcases ho:Ag (O j) (m7 j))
       all_goals try (go_ret;first | (refine⟨AM (HR.out.trans (Ke (Da hlt ?_))).symm,hb1.trans (hb3.mono hb1.size)⟩;first | (right;omega) | (left;exact ho)) | (refine⟨AM (HR.out.trans (Ke (Da hlt ?_))).symm,hb1.trans (hb2.mono hb1.size)⟩;right;omega))
       go_roundw
       case rel=>exact⟨j+1,by omega,by go_num,λ_=>by omega,λi hi=>by
        by_cases e:i=j
        · subst e;exact ho
        · exact hall i (by omega),hb3⟩
       case measure=>simp [XX];omega
      ·
       obtain rfl:j=n7:=by omega
       have hyy:=Fg hall hm;by_cases h0:0<(j:Int)
       ·
        go_wp2_with (go_at_call 130;refine(I4 a6 n6 c6 W _ (hwh.later hb2) l6).mono ?_;rintro e w3 ⟨rfl,hb3⟩;replace hb3:=hb2.trans (hb3.mono hb2.size))
        go_ret
        exact⟨AM (by rw [HR.out,hyy,decide_eq_true (show 0<j by omega)];simp),hb1.trans (hb3.mono hb1.size)⟩
       ·
        have h0':decide (0<(j:Int))=false:=by simp;omega
        go_wp2;go_ret
        exact⟨AM (by rw [HR.out,hyy,decide_eq_false (show ¬0<j by omega)];simp),hb1.trans (hb2.mono hb1.size)⟩
    have HR:Hid (AL D=false):=HO3.out.trans (hR0.out (by omega) (by omega) e3 e4 e5);clear hR3 hR4 hR5 hR0 HO3;go_wp2;go_ret
    exact⟨AM (by rw [HR.out]),hb1⟩
  ·
   have HR:Hid (AL D=false):=by rw [Hid,HO.out,hbad];simp
   clear hR1 hR2 hR3 hR4 hR5 hR0 HO HB;go_wp2;go_ret
   exact⟨AM (by rw [HR.out]),hb1⟩
theorem WY(d:St)(p:Sa)(w:ο)(h:SM w d p):XR μ 67 #[χ (Hv d p)] w λe w'=>e=ρ (β (AL d))/\υ w.heap.size w w':=by
 obtain⟨k,tb,n2,C,n3,V,col,n5,E,n6,W,n7,m7,O⟩:=d;obtain⟨a2,c2,a3,c3,a5,c5,a6,c6,a7,c7⟩:=p;exact JY k tb n2 C n3 V col n5 E n6 W n7 m7 O a2 c2 a3 c3 a5 c5 a6 c6 a7 c7 _ rfl w h
