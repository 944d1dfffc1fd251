import Derived.Test.YtfnfdllflgmhnaaGreatDoorEe
import Derived.Deep.RegionHeld3
import Derived.Test.YtfnfdllflgmhnaaGreatDoorRl
open Go renaming Calls → XR, World → ο
open Go.Ending renaming returned → ρ
open Go.IntKind renaming i64 → κ
open Go.Obj renaming cells → γ
open Go.Proofs.Tryz renaming prog → μ
open Go.RowKit renaming Below → υ, intOf → XX
open Go.RowKit.Below renaming refl → Xa
open Go.Value renaming agg → χ, int → ι, slice → σ, string → τ
open List renaming length_append → XQ
open Option renaming none → ν, some → ς
namespace Go.Proofs.YtfnfdllflgmhnaaGreatDoor
open Go.RowKit Go.Maps Go.WideMaps
set_option maxRecDepth 400000
set_option maxHeartbeats 8000000
theorem Vt(tb:ByteArray)(n2:Nat)(C:Nat->Clm)(n3:Nat)(V:Nat->Itm)(col:ByteArray)(n5:Nat)(E:Nat->Itm)(n6:Nat)(W:Nat->Itm)(n7:Nat)(m7:Nat->Nat)(O:Nat->Nat->Itm)
 (a2:Option Addr) (c2:Nat) (a3:Option Addr) (c3:Nat) (a5:Option Addr) (c5:Nat) (a6:Option Addr) (c6:Nat) (a7:Option Addr) (c7:Nat) (D:St) (hD:(⟨3,tb,n2,C,n3,V,col,n5,E,n6,W,n7,m7,O⟩:St)=D)
 (w:ο) (h:SM w ⟨3,tb,n2,C,n3,V,col,n5,E,n6,W,n7,m7,O⟩ ⟨a2,c2,a3,c3,a5,c5,a6,c6,a7,c7⟩) (hT:SpT w) :
 XR μ 52 #[χ #[ι κ 3,τ tb,σ a2 n2 c2,σ a3 n3 c3,τ col,σ a5 n5 c5,σ a6 n6 c6,σ a7 n7 c7]] w λe w'=>e=ρ (τ (BM D))/\υ w.heap.size w w':=by
 have hb0:=AE w (γ #[ι κ 3,τ tb,σ a2 n2 c2,σ a3 n3 c3,τ col,σ a5 n5 c5,σ a6 n6 c6,σ a7 n7 c7] 64);have H0:=h.later hb0;have q0:B8 (w.alloc (γ #[ι κ 3,τ tb,σ a2 n2 c2,σ a3 n3 c3,τ col,σ a5 n5 c5,σ a6 n6 c6,σ a7 n7 c7] 64)) w.heap.size ⟨3,tb,n2,C,n3,V,col,n5,E,n6,W,n7,m7,O⟩ ⟨a2,c2,a3,c3,a5,c5,a6,c6,a7,c7⟩:=B8.new w ⟨3,tb,n2,C,n3,V,col,n5,E,n6,W,n7,m7,O⟩ ⟨a2,c2,a3,c3,a5,c5,a6,c6,a7,c7⟩ 64;obtain⟨htb,hcol,-,-,-,-,-,l2,l3,l5,l6,l7⟩:=id h;dsimp only at htb hcol l2 l3 l5 l6 l7
 replace hD:Hid ((⟨3,tb,n2,C,n3,V,col,n5,E,n6,W,n7,m7,O⟩:St)=D):=hD;have HL:Hid (Bl D=AJ 1 3 ++ s8 tb ++ (s8 col ++ Am E n5 ++ Am W n6)):=by rw [←hD.out];rfl
 have HO:Hid (AL D=true->tb.size<=30/\col.size<=30/\(n5<=100/\∀ j,j<n5->(E j).s.size<=200)/\(n6<=100/\∀ j,j<n6->(W j).s.size<=200)):=λx=>by
  rw [←hD.out] at x;exact⟨CB x,XA x rfl⟩
 go_enter Tryz.func52,Tryz.ntmps52
 go_wp2_with (go_at_call 54;refine(Gd _ tb n2 C n3 V col n5 E n6 W n7 m7 O a2 c2 a3 c3 a5 c5 a6 c6 a7 c7 D hD _ H0 (hT.later hb0)).mono ?_;rintro e w1 ⟨rfl,hb1⟩;have H1:=H0.later hb1;have Q1:=q0.later hb1;obtain⟨q0,q1,q2,q3,q4,q5,q6,q7⟩:=id Q1;dsimp only at q0 q1 q2 q3 q4 q5 q6 q7;replace hb1:=AA hb0 hb1;rcases hok:AL D)
 ·
  go_ret
  exact⟨congrArg (λx=>ρ (τ x)) (Cs hok).symm,hb1⟩
 obtain⟨htb',hc',⟨hn5,ht5⟩,⟨hn6,ht6⟩⟩:=HO.out hok;have z1:(bs (AJ 1 3)).size<=1:=by rw [AI,AG];omega
 have z2:(bs (s8 tb)).size<=31:=by rw [AI,As];omega
 clear h H0 hb0 hT HO;have z3:(bs (s8 col)).size<=31:=by rw [AI,As];omega
 have z4:(bs (Am E n5)).size<=30002:=by rw [AI];exact BX hn5 ht5
 have z5:(bs (Am W n6)).size<=30002:=by rw [AI];exact BX hn6 ht6
 have y0:¬9223372036854775807<(bs (AJ 1 3)).size+(bs (s8 tb)).size:=by omega
 have y1:¬9223372036854775807<(bs (s8 col)).size+(bs (Am E n5)).size:=by omega
 have y2:¬9223372036854775807<(bs (s8 col)).size+(bs (Am E n5)).size+(bs (Am W n6)).size:=by omega
 have y3:¬9223372036854775807<(bs (AJ 1 3)).size+(bs (s8 tb)).size+((bs (s8 col)).size+(bs (Am E n5)).size+(bs (Am W n6)).size):=by omega
 go_region_held3 (λw'=>w'.cell? ⟨w.heap.size,0,ν⟩=ς (ι κ 3)/\w'.cell? ⟨w.heap.size,1,ν⟩=ς (τ tb)) (first | exact⟨q0,q1⟩ | exact⟨r0,r1⟩ | exact⟨u0,u1⟩ | go_keep) (first | (go_at_call 94;refine(Ws _).mono ?_;rintro e w2 ⟨rfl,hb2⟩;have H2:=H1.later (Aa hb2);have Q2:=Q1.later (Aa hb2);replace hb2:=AA hb1 (Aa hb2);obtain⟨r0,r1,r2,r3,r4,r5,r6,r7⟩:=id Q2;dsimp only at r0 r1 r2 r3 r4 r5 r6 r7) | (go_at_call 95;refine(DC tb _ htb).mono ?_;rintro e w3 ⟨rfl,hb3⟩;have H3:=H2.later hb3;have Q3:=Q2.later hb3;replace hb3:=AA hb2 hb3;obtain⟨u0,u1,u2,u3,u4,u5,u6,u7⟩:=id Q3;dsimp only at u0 u1 u2 u3 u4 u5 u6 u7))
 go_wp2;have hone:True:=trivial;go_region_held3 (λw'=>w'.cell? ⟨w.heap.size,4,ν⟩=ς (τ col)/\w'.cell? ⟨w.heap.size,5,ν⟩=ς (σ a5 n5 c5)/\w'.cell? ⟨w.heap.size,6,ν⟩=ς (σ a6 n6 c6)) (first | exact⟨u4,u5,u6⟩ | exact⟨v4,v5,v6⟩ | exact⟨x4,x5,x6⟩ | exact⟨y4,y5,y6⟩ | go_keep) (first | (go_at_call 95;refine(DC col _ hcol).mono ?_;rintro e w5 ⟨rfl,hb5⟩;have H5:=H3.later (Aa hb5);have Q5:=Q3.later (Aa hb5);replace hb5:=AA hb3 (Aa hb5);obtain⟨v0,v1,v2,v3,v4,v5,v6,v7⟩:=id Q5;dsimp only at v0 v1 v2 v3 v4 v5 v6 v7) | (go_at_call 100;have _h:=hone;refine(Ie a5 n5 c5 E _ H5.ex l5).mono ?_;rintro e w6 ⟨rfl,hb6⟩;clear hone;have H6:=H5.later hb6;have Q6:=Q5.later hb6;replace hb6:=AA hb5 hb6;obtain⟨x0,x1,x2,x3,x4,x5,x6,x7⟩:=id Q6;dsimp only at x0 x1 x2 x3 x4 x5 x6 x7) | (go_at_call 100;refine(Ie a6 n6 c6 W _ H6.wh l6).mono ?_;rintro e w4 ⟨rfl,hb4⟩;have H4:=H6.later hb4;have Q4:=Q6.later hb4;replace hb4:=AA hb6 hb4;obtain⟨y0,y1,y2,y3,y4,y5,y6,y7⟩:=id Q4;dsimp only at y0 y1 y2 y3 y4 y5 y6 y7))
 go_wp2
 ·
  go_ret
  rename_i hx
  simp only [AI] at hx
  exact⟨congrArg (λx=>ρ (τ x)) (DF hok rfl (by rw [HL.out];simp only [AI,XQ];omega)).symm,hb4⟩
 ·
  go_ret
  rename_i hx
  simp only [AI] at hx
  exact⟨congrArg (λx=>ρ (τ x)) (Cg (s:=bs (AJ 1 3) ++ bs (s8 tb) ++ (bs (s8 col) ++ bs (Am E n5) ++ bs (Am W n6))) hok (by rw [HL.out];simp only [A3]) (by simp only [A3,AI,XQ];omega)).symm,hb4⟩
theorem Vr(tb:ByteArray)(n2:Nat)(C:Nat->Clm)(n3:Nat)(V:Nat->Itm)(col:ByteArray)(n5:Nat)(E:Nat->Itm)(n6:Nat)(W:Nat->Itm)(n7:Nat)(m7:Nat->Nat)(O:Nat->Nat->Itm)
 (a2:Option Addr) (c2:Nat) (a3:Option Addr) (c3:Nat) (a5:Option Addr) (c5:Nat) (a6:Option Addr) (c6:Nat) (a7:Option Addr) (c7:Nat) (D:St) (hD:(⟨5,tb,n2,C,n3,V,col,n5,E,n6,W,n7,m7,O⟩:St)=D)
 (w:ο) (h:SM w ⟨5,tb,n2,C,n3,V,col,n5,E,n6,W,n7,m7,O⟩ ⟨a2,c2,a3,c3,a5,c5,a6,c6,a7,c7⟩) (hT:SpT w) :
 XR μ 52 #[χ #[ι κ 5,τ tb,σ a2 n2 c2,σ a3 n3 c3,τ col,σ a5 n5 c5,σ a6 n6 c6,σ a7 n7 c7]] w λe w'=>e=ρ (τ (BM D))/\υ w.heap.size w w':=by
 have hb0:=AE w (γ #[ι κ 5,τ tb,σ a2 n2 c2,σ a3 n3 c3,τ col,σ a5 n5 c5,σ a6 n6 c6,σ a7 n7 c7] 64);have H0:=h.later hb0;have q0:B8 (w.alloc (γ #[ι κ 5,τ tb,σ a2 n2 c2,σ a3 n3 c3,τ col,σ a5 n5 c5,σ a6 n6 c6,σ a7 n7 c7] 64)) w.heap.size ⟨5,tb,n2,C,n3,V,col,n5,E,n6,W,n7,m7,O⟩ ⟨a2,c2,a3,c3,a5,c5,a6,c6,a7,c7⟩:=B8.new w ⟨5,tb,n2,C,n3,V,col,n5,E,n6,W,n7,m7,O⟩ ⟨a2,c2,a3,c3,a5,c5,a6,c6,a7,c7⟩ 64;obtain⟨htb,hcol,-,-,-,-,-,l2,l3,l5,l6,l7⟩:=id h;dsimp only at htb hcol l2 l3 l5 l6 l7
 replace hD:Hid ((⟨5,tb,n2,C,n3,V,col,n5,E,n6,W,n7,m7,O⟩:St)=D):=hD;have HL:Hid (Bl D=AJ 1 5 ++ s8 tb ++ ((AJ 1 n7 ++ AU (λj=>Am (O j) (m7 j)) n7) ++ Am W n6)):=by rw [←hD.out];rfl
 have HO:Hid (AL D=true->tb.size<=30/\n7<=20/\(∀ j,j<n7->m7 j<=100/\∀ q,q<m7 j->(O j q).s.size<=200)/\(n6<=100/\∀ j,j<n6->(W j).s.size<=200)):=λx=>by
  rw [←hD.out] at x;exact⟨CB x,W8 x rfl⟩
 go_enter Tryz.func52,Tryz.ntmps52
 go_wp2_with (go_at_call 54;refine(Gd _ tb n2 C n3 V col n5 E n6 W n7 m7 O a2 c2 a3 c3 a5 c5 a6 c6 a7 c7 D hD _ H0 (hT.later hb0)).mono ?_;rintro e w1 ⟨rfl,hb1⟩;have H1:=H0.later hb1;have Q1:=q0.later hb1;obtain⟨q0,q1,q2,q3,q4,q5,q6,q7⟩:=id Q1;dsimp only at q0 q1 q2 q3 q4 q5 q6 q7;replace hb1:=AA hb0 hb1;rcases hok:AL D)
 ·
  go_ret
  exact⟨congrArg (λx=>ρ (τ x)) (Cs hok).symm,hb1⟩
 obtain⟨htb',hn7,ht7,⟨hn6,ht6⟩⟩:=HO.out hok;have z1:(bs (AJ 1 5)).size<=1:=by rw [AI,AG];omega
 have z2:(bs (s8 tb)).size<=31:=by rw [AI,As];omega
 clear h H0 hb0 hT HO;have z3:(bs (AJ 1 n7 ++ AU (λj=>Am (O j) (m7 j)) n7)).size<=1000000:=by
  have:=BQ (B:=λj=>Am (O j) (m7 j)) (c:=30002) (n:=n7) (λj hj=>BX (ht7 j hj).1 (ht7 j hj).2);rw [AI,XQ,AG];omega
 have z4:(bs (Am W n6)).size<=30002:=by rw [AI];exact BX hn6 ht6
 have y0:¬9223372036854775807<(bs (AJ 1 5)).size+(bs (s8 tb)).size:=by omega
 have y1:¬9223372036854775807<(bs (AJ 1 n7 ++ AU (λj=>Am (O j) (m7 j)) n7)).size+(bs (Am W n6)).size:=by omega
 have y3:¬9223372036854775807<(bs (AJ 1 5)).size+(bs (s8 tb)).size+((bs (AJ 1 n7 ++ AU (λj=>Am (O j) (m7 j)) n7)).size+(bs (Am W n6)).size):=by omega
 go_region_held3 (λw'=>w'.cell? ⟨w.heap.size,0,ν⟩=ς (ι κ 5)/\w'.cell? ⟨w.heap.size,1,ν⟩=ς (τ tb)) (first | exact⟨q0,q1⟩ | exact⟨r0,r1⟩ | exact⟨u0,u1⟩ | go_keep) (first | (go_at_call 94;refine(Wp _).mono ?_;rintro e w2 ⟨rfl,hb2⟩;have H2:=H1.later (Aa hb2);have Q2:=Q1.later (Aa hb2);replace hb2:=AA hb1 (Aa hb2);obtain⟨r0,r1,r2,r3,r4,r5,r6,r7⟩:=id Q2;dsimp only at r0 r1 r2 r3 r4 r5 r6 r7) | (go_at_call 95;refine(DC tb _ htb).mono ?_;rintro e w3 ⟨rfl,hb3⟩;have H3:=H2.later hb3;have Q3:=Q2.later hb3;replace hb3:=AA hb2 hb3;obtain⟨u0,u1,u2,u3,u4,u5,u6,u7⟩:=id Q3;dsimp only at u0 u1 u2 u3 u4 u5 u6 u7))
 go_wp2;go_region_held3 (λw'=>w'.cell? ⟨w.heap.size,6,ν⟩=ς (σ a6 n6 c6)/\w'.cell? ⟨w.heap.size,7,ν⟩=ς (σ a7 n7 c7)) (first | exact⟨u6,u7⟩ | exact⟨v6,v7⟩ | exact⟨y6,y7⟩ | go_keep) (first | (go_at_call 101;refine(TP a7 n7 c7 m7 O _ (S0 H3.ou) (λj hj=>(ht7 j hj).1) (λj hj=>(ht7 j hj).2) l7).mono ?_;rintro e w5 ⟨rfl,hb5⟩;have H5:=H3.later (Aa hb5);have Q5:=Q3.later (Aa hb5);replace hb5:=AA hb3 (Aa hb5);obtain⟨v0,v1,v2,v3,v4,v5,v6,v7⟩:=id Q5;dsimp only at v0 v1 v2 v3 v4 v5 v6 v7) | (go_at_call 100;refine(Ie a6 n6 c6 W _ H5.wh l6).mono ?_;rintro e w4 ⟨rfl,hb4⟩;have H4:=H5.later hb4;have Q4:=Q5.later hb4;replace hb4:=AA hb5 hb4;obtain⟨y0,y1,y2,y3,y4,y5,y6,y7⟩:=id Q4;dsimp only at y0 y1 y2 y3 y4 y5 y6 y7))
 go_wp2
 ·
  go_ret
  rename_i hx
  simp only [AI,XQ] at hx
  exact⟨congrArg (λx=>ρ (τ x)) (DF hok rfl (by rw [HL.out];simp only [AI,XQ];omega)).symm,hb4⟩
 ·
  go_ret
  rename_i hx
  simp only [AI,XQ] at hx
  exact⟨congrArg (λx=>ρ (τ x)) (Cg (s:=bs (AJ 1 5) ++ bs (s8 tb) ++ (bs (AJ 1 n7 ++ AU (λj=>Am (O j) (m7 j)) n7) ++ bs (Am W n6))) hok (by rw [HL.out];simp only [A3]) (by simp only [A3,AI,XQ];omega)).symm,hb4⟩
theorem UI(tb:ByteArray)(n2:Nat)(C:Nat->Clm)(n3:Nat)(V:Nat->Itm)(col:ByteArray)(n5:Nat)(E:Nat->Itm)(n6:Nat)(W:Nat->Itm)(n7:Nat)(m7:Nat->Nat)(O:Nat->Nat->Itm)
 (a2:Option Addr) (c2:Nat) (a3:Option Addr) (c3:Nat) (a5:Option Addr) (c5:Nat) (a6:Option Addr) (c6:Nat) (a7:Option Addr) (c7:Nat) (D:St) (hD:(⟨1,tb,n2,C,n3,V,col,n5,E,n6,W,n7,m7,O⟩:St)=D)
 (w:ο) (h:SM w ⟨1,tb,n2,C,n3,V,col,n5,E,n6,W,n7,m7,O⟩ ⟨a2,c2,a3,c3,a5,c5,a6,c6,a7,c7⟩) :
 XR μ 43 #[χ #[ι κ 1,τ tb,σ a2 n2 c2,σ a3 n3 c3,τ col,σ a5 n5 c5,σ a6 n6 c6,σ a7 n7 c7]] w λe w'=>e=ρ (τ (BM D))/\υ w.heap.size w w':=by
 have hb0:=AE w (γ #[ι κ 1,τ tb,σ a2 n2 c2,σ a3 n3 c3,τ col,σ a5 n5 c5,σ a6 n6 c6,σ a7 n7 c7] 64);have H0:=h.later hb0;have q0:B8 (w.alloc (γ #[ι κ 1,τ tb,σ a2 n2 c2,σ a3 n3 c3,τ col,σ a5 n5 c5,σ a6 n6 c6,σ a7 n7 c7] 64)) w.heap.size ⟨1,tb,n2,C,n3,V,col,n5,E,n6,W,n7,m7,O⟩ ⟨a2,c2,a3,c3,a5,c5,a6,c6,a7,c7⟩:=B8.new w ⟨1,tb,n2,C,n3,V,col,n5,E,n6,W,n7,m7,O⟩ ⟨a2,c2,a3,c3,a5,c5,a6,c6,a7,c7⟩ 64;obtain⟨htb,hcol,-,-,-,-,-,l2,l3,l5,l6,l7⟩:=id h;dsimp only at htb hcol l2 l3 l5 l6 l7
 replace hD:Hid ((⟨1,tb,n2,C,n3,V,col,n5,E,n6,W,n7,m7,O⟩:St)=D):=hD;have HL:Hid (Bl D=AJ 1 1 ++ s8 tb ++ (AJ 1 n2 ++ AU (λj=>CZ (C j)) n2)):=by rw [←hD.out];rfl
 have HO:Hid (AL D=true->tb.size<=30/\n2<=20/\∀ j,j<n2->(C j).s.size<=30):=λx=>by
  rw [←hD.out] at x;exact⟨CB x,XC x rfl⟩
 go_enter Tryz.func43,Tryz.ntmps43
 go_wp2_with (go_at_call 67;refine(GX _ tb n2 C n3 V col n5 E n6 W n7 m7 O a2 c2 a3 c3 a5 c5 a6 c6 a7 c7 D hD _ H0).mono ?_;rintro e w1 ⟨rfl,hb1⟩;have H1:=H0.later hb1;have Q1:=q0.later hb1;obtain⟨q0,q1,q2,q3,q4,q5,q6,q7⟩:=id Q1;dsimp only at q0 q1 q2 q3 q4 q5 q6 q7;replace hb1:=AA hb0 hb1;rcases hok:AL D)
 ·
  go_ret
  exact⟨congrArg (λx=>ρ (τ x)) (Cs hok).symm,hb1⟩
 obtain⟨htb',hn,hc⟩:=HO.out hok;have z1:(bs (AJ 1 1)).size<=1:=by rw [AI,AG];omega
 have z2:(bs (s8 tb)).size<=31:=by rw [AI,As];omega
 clear h H0 hb0 HO;have y0:¬9223372036854775807<(bs (AJ 1 1)).size+(bs (s8 tb)).size:=by omega
 go_region_held3 (λw'=>w'.cell? ⟨w.heap.size,0,ν⟩=ς (ι κ 1)/\w'.cell? ⟨w.heap.size,1,ν⟩=ς (τ tb)) (first | exact⟨q0,q1⟩ | exact⟨r0,r1⟩ | exact⟨u0,u1⟩ | go_keep) (first | (go_at_call 68;refine(DK 1 _).mono ?_;rintro e w2 ⟨rfl,hb2⟩;have H2:=H1.later (Aa hb2);have Q2:=Q1.later (Aa hb2);replace hb2:=AA hb1 (Aa hb2);obtain⟨r0,r1,r2,r3,r4,r5,r6,r7⟩:=id Q2;dsimp only at r0 r1 r2 r3 r4 r5 r6 r7) | (go_at_call 69;refine(QQ tb _ htb).mono ?_;rintro e w3 ⟨rfl,hb3⟩;have H3:=H2.later hb3;have Q3:=Q2.later hb3;replace hb3:=AA hb2 hb3;obtain⟨u0,u1,u2,u3,u4,u5,u6,u7⟩:=id Q3;dsimp only at u0 u1 u2 u3 u4 u5 u6 u7))
 have zn:(bs (AJ 1 (n2:Int))).size<=1:=by rw [AI,AG];omega
 go_wp2_with (go_at_call 68;refine(DK n2 _).mono ?_;rintro e w4 ⟨rfl,hb4⟩;have H4:=H3.later hb4;have Q4:=Q3.later hb4;replace hb4:=AA hb3 hb4;obtain⟨v0,v1,v2,v3,v4,v5,v6,v7⟩:=id Q4;dsimp only at v0 v1 v2 v3 v4 v5 v6 v7)
 go_loopw [3,5,33] (λo _ i wr=>∃ (k:Nat) (t:ByteArray),k<=n2/\i=ι κ k/\o=τ t/\t=bs (AJ 1 1 ++ s8 tb ++ AJ 1 n2 ++ AU (λj=>CZ (C j)) k)/\υ w4.heap.size w4 wr) (λ_ _ i _=>n2 - (XX i).toNat)
 case atStart=>exact⟨0,_,by omega,rfl,rfl,by rw [AU,List.append_nil];simp only [A3],Xa _ _⟩
 case round=>
  obtain⟨k,t,hk,rfl,rfl,et,hb⟩:=hrel;replace et:Hid (t=bs (AJ 1 1 ++ s8 tb ++ AJ 1 n2 ++ AU (λj=>CZ (C j)) k)):=et;have tz:t.size<=33+100 * k:=by
   have:=BQ (B:=λj=>CZ (C j)) (c:=100) (n:=k) (λj hj=>by have:=hc j (by omega);simp [CZ,As,AG];omega);rw [et.out,AI];simp only [XQ,AG,As]
   omega
  have hbw:=AA hb4 hb;by_cases hlt:k<n2
  ·
   have HN:Hid (AU (λj=>CZ (C j)) (k+1)=AU (λj=>CZ (C j)) k ++ CZ (C k)):=rfl;obtain⟨b,off,rfl,d0,d1,-⟩:=H4.co.later hb k hlt;have hck:=hc k hlt;have x1:(bs (s8 (C k).s)).size<=31:=by rw [AI,As];omega
   have x2:(bs (AJ 1 (C k).t)).size<=1:=by rw [AI,AG];omega
   have x3:¬9223372036854775807<(bs (s8 (C k).s)).size+(bs (AJ 1 (C k).t)).size:=by omega
   have x4:¬9223372036854775807<t.size+((bs (s8 (C k).s)).size+(bs (AJ 1 (C k).t)).size):=by omega
   have G:=Ia (Xa (wr.alloc (γ #[τ (C k).s,ι κ (C k).t] 92)).heap.size (wr.alloc (γ #[τ (C k).s,ι κ (C k).t] 92)));obtain⟨g0,g1⟩:=id G;go_wp2;go_region_held3 (λw'=>w'.cell? ⟨wr.heap.size,0,ν⟩=ς (τ (C k).s)/\w'.cell? ⟨wr.heap.size,1,ν⟩=ς (ι κ (C k).t)) (first | exact G | exact G2 | exact G3 | go_keep) (first | (go_at_call 69;refine(QQ (C k).s _ (by omega)).mono ?_;rintro e w5 ⟨rfl,hb5⟩;have G2:=Ia (Aa hb5);replace hb5:=bj hb (Aa hb5)) | (go_at_call 68;refine(DK (C k).t _).mono ?_;rintro e w6 ⟨rfl,hb6⟩;have G3:=And.intro (AB hb6 G2.1) (AB hb6 G2.2);replace hb6:=AA hb5 hb6))
   go_wp2;go_roundw
   case rel=>exact⟨k+1,t ++ (bs (s8 (C k).s) ++ bs (AJ 1 (C k).t)),by omega,by go_num,rfl,by rw [HN.out,et.out];simp only [A3,CZ,List.append_assoc],hb6⟩
   case measure=>simp [XX];omega
  ·
   obtain rfl:k=n2:=by omega
   have tw0:t.size=(Bl D).length:=by rw [HL.out,et.out,AI];simp only [List.append_assoc]
   have tw:Hid (t.size=(Bl D).length):=tw0;clear tw0;clear tz;go_wp2
   ·
    go_ret
    rename_i hx
    exact⟨congrArg (λx=>ρ (τ x)) (DF hok rfl (by rw [AI,←tw.out];omega)).symm,hbw⟩
   ·
    go_ret
    rename_i hx
    exact⟨congrArg (λx=>ρ (τ x)) (Cg (s:=t) hok (by rw [HL.out,et.out];simp only [List.append_assoc]) (by omega)).symm,hbw⟩
theorem UH(tb:ByteArray)(n2:Nat)(C:Nat->Clm)(n3:Nat)(V:Nat->Itm)(col:ByteArray)(n5:Nat)(E:Nat->Itm)(n6:Nat)(W:Nat->Itm)(n7:Nat)(m7:Nat->Nat)(O:Nat->Nat->Itm)
 (a2:Option Addr) (c2:Nat) (a3:Option Addr) (c3:Nat) (a5:Option Addr) (c5:Nat) (a6:Option Addr) (c6:Nat) (a7:Option Addr) (c7:Nat) (D:St) (hD:(⟨2,tb,n2,C,n3,V,col,n5,E,n6,W,n7,m7,O⟩:St)=D)
 (w:ο) (h:SM w ⟨2,tb,n2,C,n3,V,col,n5,E,n6,W,n7,m7,O⟩ ⟨a2,c2,a3,c3,a5,c5,a6,c6,a7,c7⟩) :
 XR μ 43 #[χ #[ι κ 2,τ tb,σ a2 n2 c2,σ a3 n3 c3,τ col,σ a5 n5 c5,σ a6 n6 c6,σ a7 n7 c7]] w λe w'=>e=ρ (τ (BM D))/\υ w.heap.size w w':=by
 have hb0:=AE w (γ #[ι κ 2,τ tb,σ a2 n2 c2,σ a3 n3 c3,τ col,σ a5 n5 c5,σ a6 n6 c6,σ a7 n7 c7] 64);have H0:=h.later hb0;have q0:B8 (w.alloc (γ #[ι κ 2,τ tb,σ a2 n2 c2,σ a3 n3 c3,τ col,σ a5 n5 c5,σ a6 n6 c6,σ a7 n7 c7] 64)) w.heap.size ⟨2,tb,n2,C,n3,V,col,n5,E,n6,W,n7,m7,O⟩ ⟨a2,c2,a3,c3,a5,c5,a6,c6,a7,c7⟩:=B8.new w ⟨2,tb,n2,C,n3,V,col,n5,E,n6,W,n7,m7,O⟩ ⟨a2,c2,a3,c3,a5,c5,a6,c6,a7,c7⟩ 64;obtain⟨htb,hcol,-,-,-,-,-,l2,l3,l5,l6,l7⟩:=id h;dsimp only at htb hcol l2 l3 l5 l6 l7
 replace hD:Hid ((⟨2,tb,n2,C,n3,V,col,n5,E,n6,W,n7,m7,O⟩:St)=D):=hD;have HL:Hid (Bl D=AJ 1 2 ++ s8 tb ++ (AJ 1 n3 ++ AU (λj=>A4 (V j)) n3)):=by rw [←hD.out];rfl
 have HO:Hid (AL D=true->tb.size<=30/\n3<=20/\∀ j,j<n3->(V j).s.size<=200):=λx=>by
  rw [←hD.out] at x;exact⟨CB x,XB x rfl⟩
 go_enter Tryz.func43,Tryz.ntmps43
 go_wp2_with (go_at_call 67;refine(GX _ tb n2 C n3 V col n5 E n6 W n7 m7 O a2 c2 a3 c3 a5 c5 a6 c6 a7 c7 D hD _ H0).mono ?_;rintro e w1 ⟨rfl,hb1⟩;have H1:=H0.later hb1;have Q1:=q0.later hb1;obtain⟨q0,q1,q2,q3,q4,q5,q6,q7⟩:=id Q1;dsimp only at q0 q1 q2 q3 q4 q5 q6 q7;replace hb1:=AA hb0 hb1;rcases hok:AL D)
 ·
  go_ret
  exact⟨congrArg (λx=>ρ (τ x)) (Cs hok).symm,hb1⟩
 obtain⟨htb',hn,hc⟩:=HO.out hok;have z1:(bs (AJ 1 2)).size<=1:=by rw [AI,AG];omega
 have z2:(bs (s8 tb)).size<=31:=by rw [AI,As];omega
 clear h H0 hb0 HO;have y0:¬9223372036854775807<(bs (AJ 1 2)).size+(bs (s8 tb)).size:=by omega
 go_region_held3 (λw'=>w'.cell? ⟨w.heap.size,0,ν⟩=ς (ι κ 2)/\w'.cell? ⟨w.heap.size,1,ν⟩=ς (τ tb)) (first | exact⟨q0,q1⟩ | exact⟨r0,r1⟩ | exact⟨u0,u1⟩ | go_keep) (first | (go_at_call 68;refine(DK 2 _).mono ?_;rintro e w2 ⟨rfl,hb2⟩;have H2:=H1.later (Aa hb2);have Q2:=Q1.later (Aa hb2);replace hb2:=AA hb1 (Aa hb2);obtain⟨r0,r1,r2,r3,r4,r5,r6,r7⟩:=id Q2;dsimp only at r0 r1 r2 r3 r4 r5 r6 r7) | (go_at_call 69;refine(QQ tb _ htb).mono ?_;rintro e w3 ⟨rfl,hb3⟩;have H3:=H2.later hb3;have Q3:=Q2.later hb3;replace hb3:=AA hb2 hb3;obtain⟨u0,u1,u2,u3,u4,u5,u6,u7⟩:=id Q3;dsimp only at u0 u1 u2 u3 u4 u5 u6 u7))
 have zn:(bs (AJ 1 (n3:Int))).size<=1:=by rw [AI,AG];omega
 go_wp2_with (go_at_call 68;refine(DK n3 _).mono ?_;rintro e w4 ⟨rfl,hb4⟩;have H4:=H3.later hb4;have Q4:=Q3.later hb4;replace hb4:=AA hb3 hb4;obtain⟨v0,v1,v2,v3,v4,v5,v6,v7⟩:=id Q4;dsimp only at v0 v1 v2 v3 v4 v5 v6 v7)
 go_loopw [3,7,58] (λo _ i wr=>∃ (k:Nat) (t:ByteArray),k<=n3/\i=ι κ k/\o=τ t/\t=bs (AJ 1 2 ++ s8 tb ++ AJ 1 n3 ++ AU (λj=>A4 (V j)) k)/\υ w4.heap.size w4 wr) (λ_ _ i _=>n3 - (XX i).toNat)
 case atStart=>exact⟨0,_,by omega,rfl,rfl,by rw [AU,List.append_nil];simp only [A3],Xa _ _⟩
 case round=>
  obtain⟨k,t,hk,rfl,rfl,et,hb⟩:=hrel;replace et:Hid (t=bs (AJ 1 2 ++ s8 tb ++ AJ 1 n3 ++ AU (λj=>A4 (V j)) k)):=et;have tz:t.size<=33+300 * k:=by
   have:=BQ (B:=λj=>A4 (V j)) (c:=300) (n:=k) (λj hj=>by have:=hc j (by omega);unfold A4;rw [XQ,AG];split <;> simp [AG,CR] <;> omega);rw [et.out,AI];simp only [XQ,AG,As]
   omega
  have hbw:=AA hb4 hb;by_cases hlt:k<n3
  ·
   have HN:Hid (AU (λj=>A4 (V j)) (k+1)=AU (λj=>A4 (V j)) k ++ A4 (V k)):=rfl;obtain⟨b,off,rfl,d0,d1,d2,-⟩:=H4.va.later hb k hlt;have hck:=hc k hlt;have hone:True:=trivial;have x1:(bs (AJ 1 (V k).o)).size<=1:=by rw [AI,AG];omega
   have x2:(bs (AJ 8 (V k).m)).size<=8:=by rw [AI,AG];omega
   have x3:(bs (IH (V k).s)).size<=202:=by rw [AI,CR];omega
   by_cases h1:(V k).o=1
   ·
    have h1':((V k).o == 1)=true:=by simp [h1]
    have HQ:Hid (A4 (V k)=AJ 1 (V k).o ++ AJ 8 (V k).m):=by simp [Hid,A4,h1]
    clear h1;go_wp2_with (first | (go_at_call 68;have _h:=hone;refine(DK (V k).o _).mono ?_;rintro e w5 ⟨rfl,hb5⟩;obtain⟨g0,g1,g2⟩:=DQ hb5;replace hb5:=bj hb hb5;clear hone) | (go_at_call 68;refine(QR (V k).m _).mono ?_;rintro e w6 ⟨rfl,hb6⟩;replace hb6:=AA hb5 hb6))
    go_roundw
    case rel=>exact⟨k+1,t ++ bs (AJ 1 (V k).o) ++ bs (AJ 8 (V k).m),by omega,by go_num,rfl,by rw [HN.out,et.out,HQ.out];simp only [A3,List.append_assoc],hb6⟩
    case measure=>simp [XX];omega
   ·
    have h1':((V k).o == 1)=false:=by simp [h1]
    have HQ:Hid (A4 (V k)=AJ 1 (V k).o ++ IH (V k).s):=by simp [Hid,A4,h1]
    clear h1;go_wp2_with (first | (go_at_call 68;refine(DK (V k).o _).mono ?_;rintro e w5 ⟨rfl,hb5⟩;obtain⟨g0,g1,g2⟩:=DQ hb5;replace hb5:=bj hb hb5) | (go_at_call 70;refine(UB (V k).s _ (by omega)).mono ?_;rintro e w6 ⟨rfl,hb6⟩;replace hb6:=AA hb5 hb6))
    go_roundw
    case rel=>exact⟨k+1,t ++ bs (AJ 1 (V k).o) ++ bs (IH (V k).s),by omega,by go_num,rfl,by rw [HN.out,et.out,HQ.out];simp only [A3,List.append_assoc],hb6⟩
    case measure=>simp [XX];omega
  ·
   obtain rfl:k=n3:=by omega
   have tw0:t.size=(Bl D).length:=by rw [HL.out,et.out,AI];simp only [List.append_assoc]
   have tw:Hid (t.size=(Bl D).length):=tw0;clear tw0;clear tz;go_wp2
   ·
    go_ret
    rename_i hx
    exact⟨congrArg (λx=>ρ (τ x)) (DF hok rfl (by rw [AI,←tw.out];omega)).symm,hbw⟩
   ·
    go_ret
    rename_i hx
    exact⟨congrArg (λx=>ρ (τ x)) (Cg (s:=t) hok (by rw [HL.out,et.out];simp only [List.append_assoc]) (by omega)).symm,hbw⟩
theorem UJ(k:Int)(e1:¬k=1)(e2:¬k=2)(e3:¬k=3)(e4:¬k=4)(e5:¬k=5)(tb:ByteArray)(n2:Nat)(C:Nat->Clm)(n3:Nat)(V:Nat->Itm)(col:ByteArray)(n5:Nat)(E:Nat->Itm)(n6:Nat)(W:Nat->Itm)(n7:Nat)(m7:Nat->Nat)(O:Nat->Nat->Itm)
 (a2:Option Addr) (c2:Nat) (a3:Option Addr) (c3:Nat) (a5:Option Addr) (c5:Nat) (a6:Option Addr) (c6:Nat) (a7:Option Addr) (c7:Nat) (D:St) (hD:(⟨k,tb,n2,C,n3,V,col,n5,E,n6,W,n7,m7,O⟩:St)=D)
 (w:ο) (h:SM w ⟨k,tb,n2,C,n3,V,col,n5,E,n6,W,n7,m7,O⟩ ⟨a2,c2,a3,c3,a5,c5,a6,c6,a7,c7⟩) :
 XR μ 43 #[χ #[ι κ k,τ tb,σ a2 n2 c2,σ a3 n3 c3,τ col,σ a5 n5 c5,σ a6 n6 c6,σ a7 n7 c7]] w λe w'=>e=ρ (τ (BM D))/\υ w.heap.size w w':=by
 have hb0:=AE w (γ #[ι κ k,τ tb,σ a2 n2 c2,σ a3 n3 c3,τ col,σ a5 n5 c5,σ a6 n6 c6,σ a7 n7 c7] 64);have H0:=h.later hb0;have q0:B8 (w.alloc (γ #[ι κ k,τ tb,σ a2 n2 c2,σ a3 n3 c3,τ col,σ a5 n5 c5,σ a6 n6 c6,σ a7 n7 c7] 64)) w.heap.size ⟨k,tb,n2,C,n3,V,col,n5,E,n6,W,n7,m7,O⟩ ⟨a2,c2,a3,c3,a5,c5,a6,c6,a7,c7⟩:=B8.new w ⟨k,tb,n2,C,n3,V,col,n5,E,n6,W,n7,m7,O⟩ ⟨a2,c2,a3,c3,a5,c5,a6,c6,a7,c7⟩ 64;obtain⟨htb,hcol,-,-,-,-,-,l2,l3,l5,l6,l7⟩:=id h;dsimp only at htb hcol l2 l3 l5 l6 l7
 replace hD:Hid ((⟨k,tb,n2,C,n3,V,col,n5,E,n6,W,n7,m7,O⟩:St)=D):=hD;have HZ:AL D=false:=by rw [←hD.out];exact OT ⟨k,tb,n2,C,n3,V,col,n5,E,n6,W,n7,m7,O⟩ e1 e2 e3 e4 e5
 go_enter Tryz.func43,Tryz.ntmps43
 go_wp2_with (go_at_call 67;refine(GX _ tb n2 C n3 V col n5 E n6 W n7 m7 O a2 c2 a3 c3 a5 c5 a6 c6 a7 c7 D hD _ H0).mono ?_;rintro e w1 ⟨rfl,hb1⟩;have H1:=H0.later hb1;have Q1:=q0.later hb1;obtain⟨q0,q1,q2,q3,q4,q5,q6,q7⟩:=id Q1;dsimp only at q0 q1 q2 q3 q4 q5 q6 q7;replace hb1:=AA hb0 hb1;rcases hok:AL D)
 ·
  go_ret
  exact⟨congrArg (λx=>ρ (τ x)) (Cs hok).symm,hb1⟩
 · rw [HZ] at hok;cases hok
theorem UG(tb:ByteArray)(n2:Nat)(C:Nat->Clm)(n3:Nat)(V:Nat->Itm)(col:ByteArray)(n5:Nat)(E:Nat->Itm)(n6:Nat)(W:Nat->Itm)(n7:Nat)(m7:Nat->Nat)(O:Nat->Nat->Itm)
 (a2:Option Addr) (c2:Nat) (a3:Option Addr) (c3:Nat) (a5:Option Addr) (c5:Nat) (a6:Option Addr) (c6:Nat) (a7:Option Addr) (c7:Nat) (D:St) (hD:(⟨3,tb,n2,C,n3,V,col,n5,E,n6,W,n7,m7,O⟩:St)=D)
 (w:ο) (h:SM w ⟨3,tb,n2,C,n3,V,col,n5,E,n6,W,n7,m7,O⟩ ⟨a2,c2,a3,c3,a5,c5,a6,c6,a7,c7⟩) :
 XR μ 43 #[χ #[ι κ 3,τ tb,σ a2 n2 c2,σ a3 n3 c3,τ col,σ a5 n5 c5,σ a6 n6 c6,σ a7 n7 c7]] w λe w'=>e=ρ (τ (BM D))/\υ w.heap.size w w':=by
 have hb0:=AE w (γ #[ι κ 3,τ tb,σ a2 n2 c2,σ a3 n3 c3,τ col,σ a5 n5 c5,σ a6 n6 c6,σ a7 n7 c7] 64);have H0:=h.later hb0;have q0:B8 (w.alloc (γ #[ι κ 3,τ tb,σ a2 n2 c2,σ a3 n3 c3,τ col,σ a5 n5 c5,σ a6 n6 c6,σ a7 n7 c7] 64)) w.heap.size ⟨3,tb,n2,C,n3,V,col,n5,E,n6,W,n7,m7,O⟩ ⟨a2,c2,a3,c3,a5,c5,a6,c6,a7,c7⟩:=B8.new w ⟨3,tb,n2,C,n3,V,col,n5,E,n6,W,n7,m7,O⟩ ⟨a2,c2,a3,c3,a5,c5,a6,c6,a7,c7⟩ 64;obtain⟨htb,hcol,-,-,-,-,-,l2,l3,l5,l6,l7⟩:=id h;dsimp only at htb hcol l2 l3 l5 l6 l7
 replace hD:Hid ((⟨3,tb,n2,C,n3,V,col,n5,E,n6,W,n7,m7,O⟩:St)=D):=hD;have HL:Hid (Bl D=AJ 1 3 ++ s8 tb ++ (s8 col ++ Am E n5 ++ Am W n6)):=by rw [←hD.out];rfl
 have HO:Hid (AL D=true->tb.size<=30/\col.size<=30/\(n5<=100/\∀ j,j<n5->(E j).s.size<=200)/\(n6<=100/\∀ j,j<n6->(W j).s.size<=200)):=λx=>by
  rw [←hD.out] at x;exact⟨CB x,XA x rfl⟩
 go_enter Tryz.func43,Tryz.ntmps43
 go_wp2_with (go_at_call 67;refine(GX _ tb n2 C n3 V col n5 E n6 W n7 m7 O a2 c2 a3 c3 a5 c5 a6 c6 a7 c7 D hD _ H0).mono ?_;rintro e w1 ⟨rfl,hb1⟩;have H1:=H0.later hb1;have Q1:=q0.later hb1;obtain⟨q0,q1,q2,q3,q4,q5,q6,q7⟩:=id Q1;dsimp only at q0 q1 q2 q3 q4 q5 q6 q7;replace hb1:=AA hb0 hb1;rcases hok:AL D)
 ·
  go_ret
  exact⟨congrArg (λx=>ρ (τ x)) (Cs hok).symm,hb1⟩
 obtain⟨htb',hc',⟨hn5,ht5⟩,⟨hn6,ht6⟩⟩:=HO.out hok;have z1:(bs (AJ 1 3)).size<=1:=by rw [AI,AG];omega
 have z2:(bs (s8 tb)).size<=31:=by rw [AI,As];omega
 clear h H0 hb0 HO;have z3:(bs (s8 col)).size<=31:=by rw [AI,As];omega
 have z4:(bs (Am E n5)).size<=30002:=by rw [AI];exact BX hn5 ht5
 have z5:(bs (Am W n6)).size<=30002:=by rw [AI];exact BX hn6 ht6
 have y0:¬9223372036854775807<(bs (AJ 1 3)).size+(bs (s8 tb)).size:=by omega
 have y1:¬9223372036854775807<(bs (s8 col)).size+(bs (Am E n5)).size:=by omega
 have y2:¬9223372036854775807<(bs (s8 col)).size+(bs (Am E n5)).size+(bs (Am W n6)).size:=by omega
 have y3:¬9223372036854775807<(bs (AJ 1 3)).size+(bs (s8 tb)).size+((bs (s8 col)).size+(bs (Am E n5)).size+(bs (Am W n6)).size):=by omega
 go_region_held3 (λw'=>w'.cell? ⟨w.heap.size,0,ν⟩=ς (ι κ 3)/\w'.cell? ⟨w.heap.size,1,ν⟩=ς (τ tb)) (first | exact⟨q0,q1⟩ | exact⟨r0,r1⟩ | exact⟨u0,u1⟩ | go_keep) (first | (go_at_call 68;refine(DK 3 _).mono ?_;rintro e w2 ⟨rfl,hb2⟩;have H2:=H1.later (Aa hb2);have Q2:=Q1.later (Aa hb2);replace hb2:=AA hb1 (Aa hb2);obtain⟨r0,r1,r2,r3,r4,r5,r6,r7⟩:=id Q2;dsimp only at r0 r1 r2 r3 r4 r5 r6 r7) | (go_at_call 69;refine(QQ tb _ htb).mono ?_;rintro e w3 ⟨rfl,hb3⟩;have H3:=H2.later hb3;have Q3:=Q2.later hb3;replace hb3:=AA hb2 hb3;obtain⟨u0,u1,u2,u3,u4,u5,u6,u7⟩:=id Q3;dsimp only at u0 u1 u2 u3 u4 u5 u6 u7))
 go_wp2;have hone:True:=trivial;go_region_held3 (λw'=>w'.cell? ⟨w.heap.size,4,ν⟩=ς (τ col)/\w'.cell? ⟨w.heap.size,5,ν⟩=ς (σ a5 n5 c5)/\w'.cell? ⟨w.heap.size,6,ν⟩=ς (σ a6 n6 c6)) (first | exact⟨u4,u5,u6⟩ | exact⟨v4,v5,v6⟩ | exact⟨x4,x5,x6⟩ | exact⟨y4,y5,y6⟩ | go_keep) (first | (go_at_call 69;refine(QQ col _ hcol).mono ?_;rintro e w5 ⟨rfl,hb5⟩;have H5:=H3.later (Aa hb5);have Q5:=Q3.later (Aa hb5);replace hb5:=AA hb3 (Aa hb5);obtain⟨v0,v1,v2,v3,v4,v5,v6,v7⟩:=id Q5;dsimp only at v0 v1 v2 v3 v4 v5 v6 v7) | (go_at_call 71;have _h:=hone;refine(IF a5 n5 c5 E _ H5.ex hn5 ht5).mono ?_;rintro e w6 ⟨rfl,hb6⟩;clear hone;have H6:=H5.later hb6;have Q6:=Q5.later hb6;replace hb6:=AA hb5 hb6;obtain⟨x0,x1,x2,x3,x4,x5,x6,x7⟩:=id Q6;dsimp only at x0 x1 x2 x3 x4 x5 x6 x7) | (go_at_call 71;refine(IF a6 n6 c6 W _ H6.wh hn6 ht6).mono ?_;rintro e w4 ⟨rfl,hb4⟩;have H4:=H6.later hb4;have Q4:=Q6.later hb4;replace hb4:=AA hb6 hb4;obtain⟨y0,y1,y2,y3,y4,y5,y6,y7⟩:=id Q4;dsimp only at y0 y1 y2 y3 y4 y5 y6 y7))
 go_wp2
 ·
  go_ret
  rename_i hx
  simp only [AI] at hx
  exact⟨congrArg (λx=>ρ (τ x)) (DF hok rfl (by rw [HL.out];simp only [AI,XQ];omega)).symm,hb4⟩
 ·
  go_ret
  rename_i hx
  simp only [AI] at hx
  exact⟨congrArg (λx=>ρ (τ x)) (Cg (s:=bs (AJ 1 3) ++ bs (s8 tb) ++ (bs (s8 col) ++ bs (Am E n5) ++ bs (Am W n6))) hok (by rw [HL.out];simp only [A3]) (by simp only [A3,AI,XQ];omega)).symm,hb4⟩
theorem UF(tb:ByteArray)(n2:Nat)(C:Nat->Clm)(n3:Nat)(V:Nat->Itm)(col:ByteArray)(n5:Nat)(E:Nat->Itm)(n6:Nat)(W:Nat->Itm)(n7:Nat)(m7:Nat->Nat)(O:Nat->Nat->Itm)
 (a2:Option Addr) (c2:Nat) (a3:Option Addr) (c3:Nat) (a5:Option Addr) (c5:Nat) (a6:Option Addr) (c6:Nat) (a7:Option Addr) (c7:Nat) (D:St) (hD:(⟨4,tb,n2,C,n3,V,col,n5,E,n6,W,n7,m7,O⟩:St)=D)
 (w:ο) (h:SM w ⟨4,tb,n2,C,n3,V,col,n5,E,n6,W,n7,m7,O⟩ ⟨a2,c2,a3,c3,a5,c5,a6,c6,a7,c7⟩) :
 XR μ 43 #[χ #[ι κ 4,τ tb,σ a2 n2 c2,σ a3 n3 c3,τ col,σ a5 n5 c5,σ a6 n6 c6,σ a7 n7 c7]] w λe w'=>e=ρ (τ (BM D))/\υ w.heap.size w w':=by
 have hb0:=AE w (γ #[ι κ 4,τ tb,σ a2 n2 c2,σ a3 n3 c3,τ col,σ a5 n5 c5,σ a6 n6 c6,σ a7 n7 c7] 64);have H0:=h.later hb0;have q0:B8 (w.alloc (γ #[ι κ 4,τ tb,σ a2 n2 c2,σ a3 n3 c3,τ col,σ a5 n5 c5,σ a6 n6 c6,σ a7 n7 c7] 64)) w.heap.size ⟨4,tb,n2,C,n3,V,col,n5,E,n6,W,n7,m7,O⟩ ⟨a2,c2,a3,c3,a5,c5,a6,c6,a7,c7⟩:=B8.new w ⟨4,tb,n2,C,n3,V,col,n5,E,n6,W,n7,m7,O⟩ ⟨a2,c2,a3,c3,a5,c5,a6,c6,a7,c7⟩ 64;obtain⟨htb,hcol,-,-,-,-,-,l2,l3,l5,l6,l7⟩:=id h;dsimp only at htb hcol l2 l3 l5 l6 l7
 replace hD:Hid ((⟨4,tb,n2,C,n3,V,col,n5,E,n6,W,n7,m7,O⟩:St)=D):=hD;have HL:Hid (Bl D=AJ 1 4 ++ s8 tb ++ (Am W n6)):=by rw [←hD.out];rfl
 have HO:Hid (AL D=true->tb.size<=30/\n6<=100/\∀ j,j<n6->(W j).s.size<=200):=λx=>by
  rw [←hD.out] at x;exact⟨CB x,W9 x rfl⟩
 go_enter Tryz.func43,Tryz.ntmps43
 go_wp2_with (go_at_call 67;refine(GX _ tb n2 C n3 V col n5 E n6 W n7 m7 O a2 c2 a3 c3 a5 c5 a6 c6 a7 c7 D hD _ H0).mono ?_;rintro e w1 ⟨rfl,hb1⟩;have H1:=H0.later hb1;have Q1:=q0.later hb1;obtain⟨q0,q1,q2,q3,q4,q5,q6,q7⟩:=id Q1;dsimp only at q0 q1 q2 q3 q4 q5 q6 q7;replace hb1:=AA hb0 hb1;rcases hok:AL D)
 ·
  go_ret
  exact⟨congrArg (λx=>ρ (τ x)) (Cs hok).symm,hb1⟩
 obtain⟨htb',hn6,ht6⟩:=HO.out hok;have z1:(bs (AJ 1 4)).size<=1:=by rw [AI,AG];omega
 have z2:(bs (s8 tb)).size<=31:=by rw [AI,As];omega
 clear h H0 hb0 HO;have z3:(bs (Am W n6)).size<=30002:=by rw [AI];exact BX hn6 ht6
 have y0:¬9223372036854775807<(bs (AJ 1 4)).size+(bs (s8 tb)).size:=by omega
 go_region_held3 (λw'=>w'.cell? ⟨w.heap.size,0,ν⟩=ς (ι κ 4)/\w'.cell? ⟨w.heap.size,1,ν⟩=ς (τ tb)) (first | exact⟨q0,q1⟩ | exact⟨r0,r1⟩ | exact⟨u0,u1⟩ | go_keep) (first | (go_at_call 68;refine(DK 4 _).mono ?_;rintro e w2 ⟨rfl,hb2⟩;have H2:=H1.later (Aa hb2);have Q2:=Q1.later (Aa hb2);replace hb2:=AA hb1 (Aa hb2);obtain⟨r0,r1,r2,r3,r4,r5,r6,r7⟩:=id Q2;dsimp only at r0 r1 r2 r3 r4 r5 r6 r7) | (go_at_call 69;refine(QQ tb _ htb).mono ?_;rintro e w3 ⟨rfl,hb3⟩;have H3:=H2.later hb3;have Q3:=Q2.later hb3;replace hb3:=AA hb2 hb3;obtain⟨u0,u1,u2,u3,u4,u5,u6,u7⟩:=id Q3;dsimp only at u0 u1 u2 u3 u4 u5 u6 u7))
 go_wp2_with (go_at_call 71;refine(IF a6 n6 c6 W _ H3.wh hn6 ht6).mono ?_;rintro e w4 ⟨rfl,hb4⟩;replace hb4:=AA hb3 hb4)
 go_ret
 exact⟨congrArg (λx=>ρ (τ x)) (Cg (s:=bs (AJ 1 4) ++ bs (s8 tb) ++ bs (Am W n6)) hok (by rw [HL.out];simp only [A3]) (by rw [ByteArray.size_append,ByteArray.size_append];omega)).symm,hb4⟩
theorem UE(tb:ByteArray)(n2:Nat)(C:Nat->Clm)(n3:Nat)(V:Nat->Itm)(col:ByteArray)(n5:Nat)(E:Nat->Itm)(n6:Nat)(W:Nat->Itm)(n7:Nat)(m7:Nat->Nat)(O:Nat->Nat->Itm)
 (a2:Option Addr) (c2:Nat) (a3:Option Addr) (c3:Nat) (a5:Option Addr) (c5:Nat) (a6:Option Addr) (c6:Nat) (a7:Option Addr) (c7:Nat) (D:St) (hD:(⟨5,tb,n2,C,n3,V,col,n5,E,n6,W,n7,m7,O⟩:St)=D)
 (w:ο) (h:SM w ⟨5,tb,n2,C,n3,V,col,n5,E,n6,W,n7,m7,O⟩ ⟨a2,c2,a3,c3,a5,c5,a6,c6,a7,c7⟩) :
 XR μ 43 #[χ #[ι κ 5,τ tb,σ a2 n2 c2,σ a3 n3 c3,τ col,σ a5 n5 c5,σ a6 n6 c6,σ a7 n7 c7]] w λe w'=>e=ρ (τ (BM D))/\υ w.heap.size w w':=by
 have hb0:=AE w (γ #[ι κ 5,τ tb,σ a2 n2 c2,σ a3 n3 c3,τ col,σ a5 n5 c5,σ a6 n6 c6,σ a7 n7 c7] 64);have H0:=h.later hb0;have q0:B8 (w.alloc (γ #[ι κ 5,τ tb,σ a2 n2 c2,σ a3 n3 c3,τ col,σ a5 n5 c5,σ a6 n6 c6,σ a7 n7 c7] 64)) w.heap.size ⟨5,tb,n2,C,n3,V,col,n5,E,n6,W,n7,m7,O⟩ ⟨a2,c2,a3,c3,a5,c5,a6,c6,a7,c7⟩:=B8.new w ⟨5,tb,n2,C,n3,V,col,n5,E,n6,W,n7,m7,O⟩ ⟨a2,c2,a3,c3,a5,c5,a6,c6,a7,c7⟩ 64;obtain⟨htb,hcol,-,-,-,-,-,l2,l3,l5,l6,l7⟩:=id h;dsimp only at htb hcol l2 l3 l5 l6 l7
 replace hD:Hid ((⟨5,tb,n2,C,n3,V,col,n5,E,n6,W,n7,m7,O⟩:St)=D):=hD;have HL:Hid (Bl D=AJ 1 5 ++ s8 tb ++ ((AJ 1 n7 ++ AU (λj=>Am (O j) (m7 j)) n7) ++ Am W n6)):=by rw [←hD.out];rfl
 have HO:Hid (AL D=true->tb.size<=30/\n7<=20/\(∀ j,j<n7->m7 j<=100/\∀ q,q<m7 j->(O j q).s.size<=200)/\(n6<=100/\∀ j,j<n6->(W j).s.size<=200)):=λx=>by
  rw [←hD.out] at x;exact⟨CB x,W8 x rfl⟩
 go_enter Tryz.func43,Tryz.ntmps43
 go_wp2_with (go_at_call 67;refine(GX _ tb n2 C n3 V col n5 E n6 W n7 m7 O a2 c2 a3 c3 a5 c5 a6 c6 a7 c7 D hD _ H0).mono ?_;rintro e w1 ⟨rfl,hb1⟩;have H1:=H0.later hb1;have Q1:=q0.later hb1;obtain⟨q0,q1,q2,q3,q4,q5,q6,q7⟩:=id Q1;dsimp only at q0 q1 q2 q3 q4 q5 q6 q7;replace hb1:=AA hb0 hb1;rcases hok:AL D)
 ·
  go_ret
  exact⟨congrArg (λx=>ρ (τ x)) (Cs hok).symm,hb1⟩
 obtain⟨htb',hn,hc,⟨hn6,ht6⟩⟩:=HO.out hok;have z1:(bs (AJ 1 5)).size<=1:=by rw [AI,AG];omega
 have z2:(bs (s8 tb)).size<=31:=by rw [AI,As];omega
 clear h H0 hb0 HO;have z4:(bs (Am W n6)).size<=30002:=by rw [AI];exact BX hn6 ht6
 have y0:¬9223372036854775807<(bs (AJ 1 5)).size+(bs (s8 tb)).size:=by omega
 go_region_held3 (λw'=>w'.cell? ⟨w.heap.size,0,ν⟩=ς (ι κ 5)/\w'.cell? ⟨w.heap.size,1,ν⟩=ς (τ tb)) (first | exact⟨q0,q1⟩ | exact⟨r0,r1⟩ | exact⟨u0,u1⟩ | go_keep) (first | (go_at_call 68;refine(DK 5 _).mono ?_;rintro e w2 ⟨rfl,hb2⟩;have H2:=H1.later (Aa hb2);have Q2:=Q1.later (Aa hb2);replace hb2:=AA hb1 (Aa hb2);obtain⟨r0,r1,r2,r3,r4,r5,r6,r7⟩:=id Q2;dsimp only at r0 r1 r2 r3 r4 r5 r6 r7) | (go_at_call 69;refine(QQ tb _ htb).mono ?_;rintro e w3 ⟨rfl,hb3⟩;have H3:=H2.later hb3;have Q3:=Q2.later hb3;replace hb3:=AA hb2 hb3;obtain⟨u0,u1,u2,u3,u4,u5,u6,u7⟩:=id Q3;dsimp only at u0 u1 u2 u3 u4 u5 u6 u7))
 have zn:(bs (AJ 1 (n7:Int))).size<=1:=by rw [AI,AG];omega
 go_wp2_with (go_at_call 68;refine(DK n7 _).mono ?_;rintro e w4 ⟨rfl,hb4⟩;have H4:=H3.later hb4;have Q4:=Q3.later hb4;replace hb4:=AA hb3 hb4;obtain⟨v0,v1,v2,v3,v4,v5,v6,v7⟩:=id Q4;dsimp only at v0 v1 v2 v3 v4 v5 v6 v7)
 go_loopw [3,9,114] (λo _ i wr=>∃ (k:Nat) (t:ByteArray),k<=n7/\i=ι κ k/\o=τ t/\t=bs (AJ 1 5 ++ s8 tb ++ AJ 1 n7 ++ AU (λj=>Am (O j) (m7 j)) k)/\υ w4.heap.size w4 wr) (λ_ _ i _=>n7 - (XX i).toNat)
 case atStart=>exact⟨0,_,by omega,rfl,rfl,by rw [AU,List.append_nil];simp only [A3],Xa _ _⟩
 case round=>
  obtain⟨k,t,hk,rfl,rfl,et,hb⟩:=hrel;replace et:Hid (t=bs (AJ 1 5 ++ s8 tb ++ AJ 1 n7 ++ AU (λj=>Am (O j) (m7 j)) k)):=et;have tz:t.size<=33+30002 * k:=by
   have:=BQ (B:=λj=>Am (O j) (m7 j)) (c:=30002) (n:=k) (λj hj=>BX (hc j (by omega)).1 (hc j (by omega)).2);rw [et.out,AI];simp only [XQ,AG,As]
   omega
  have hbw:=AA hb4 hb;by_cases hlt:k<n7
  ·
   have HN:Hid (AU (λj=>Am (O j) (m7 j)) (k+1)=AU (λj=>Am (O j) (m7 j)) k ++ Am (O k) (m7 k)):=rfl;obtain⟨b,off,i,c',rfl,d0,di,dm⟩:=H4.ou.later hb k hlt;obtain⟨hm',ht'⟩:=hc k hlt;have x1:(bs (Am (O k) (m7 k))).size<=30002:=by rw [AI];exact BX hm' ht'
   go_wp2_with (go_at_call 71;refine(IF i _ c' (O k) _ di hm' ht').mono ?_;rintro e w5 ⟨rfl,hb5⟩;replace hb5:=AA hb hb5)
   go_roundw
   case rel=>exact⟨k+1,t ++ bs (Am (O k) (m7 k)),by omega,by go_num,rfl,by rw [HN.out,et.out];simp only [A3,List.append_assoc],hb5⟩
   case measure=>simp [XX];omega
  ·
   obtain rfl:k=n7:=by omega
   have tw0:t.size+(bs (Am W n6)).size=(Bl D).length:=by rw [HL.out,et.out];simp only [AI,XQ];omega
   have tw:Hid (t.size+(bs (Am W n6)).size=(Bl D).length):=tw0;clear tw0;have f6:=AB hb v6;have z6:t.size+(bs (Am W n6)).size<=100000000:=by omega
   clear tz;go_wp2_with (go_at_call 71;refine(IF a6 n6 c6 W _ (H4.wh.later hb) hn6 ht6).mono ?_;rintro e w7 ⟨rfl,hb7⟩;replace hb7:=AA hbw hb7)
   ·
    go_ret
    rename_i hx
    exact⟨congrArg (λx=>ρ (τ x)) (DF hok rfl (by rw [AI,←tw.out];omega)).symm,hb7⟩
   ·
    go_ret
    rename_i hx
    exact⟨congrArg (λx=>ρ (τ x)) (Cg (s:=t ++ bs (Am W n6)) hok (by rw [HL.out,et.out];simp only [A3,List.append_assoc]) (by rw [ByteArray.size_append];omega)).symm,hb7⟩
theorem Wv(d:St)(p:Sa)(w:ο)(h:SM w d p)(hT:SpT w):XR μ 52 #[χ (Hv d p)] w λe w'=>e=ρ (τ (BM d))/\υ w.heap.size w w':=by
 obtain⟨k,tb,n2,C,n3,V,col,n5,E,n6,W,n7,m7,O⟩:=d;obtain⟨a2,c2,a3,c3,a5,c5,a6,c6,a7,c7⟩:=p;by_cases e1:k=1
 · subst e1;exact Vv tb n2 C n3 V col n5 E n6 W n7 m7 O a2 c2 a3 c3 a5 c5 a6 c6 a7 c7 _ rfl w h hT
 by_cases e2:k=2
 · subst e2;exact Vu tb n2 C n3 V col n5 E n6 W n7 m7 O a2 c2 a3 c3 a5 c5 a6 c6 a7 c7 _ rfl w h hT
 by_cases e3:k=3
 · subst e3;exact Vt tb n2 C n3 V col n5 E n6 W n7 m7 O a2 c2 a3 c3 a5 c5 a6 c6 a7 c7 _ rfl w h hT
 by_cases e4:k=4
 · subst e4;exact Vs tb n2 C n3 V col n5 E n6 W n7 m7 O a2 c2 a3 c3 a5 c5 a6 c6 a7 c7 _ rfl w h hT
 by_cases e5:k=5
 · subst e5;exact Vr tb n2 C n3 V col n5 E n6 W n7 m7 O a2 c2 a3 c3 a5 c5 a6 c6 a7 c7 _ rfl w h hT
 exact Vw k e1 e2 e3 e4 e5 tb n2 C n3 V col n5 E n6 W n7 m7 O a2 c2 a3 c3 a5 c5 a6 c6 a7 c7 _ rfl w h hT
theorem Kq(d:St)(p:Sa)(w:ο)(h:SM w d p):XR μ 43 #[χ (Hv d p)] w λe w'=>e=ρ (τ (BM d))/\υ w.heap.size w w':=by
 obtain⟨k,tb,n2,C,n3,V,col,n5,E,n6,W,n7,m7,O⟩:=d;obtain⟨a2,c2,a3,c3,a5,c5,a6,c6,a7,c7⟩:=p;by_cases e1:k=1
 · subst e1;exact UI tb n2 C n3 V col n5 E n6 W n7 m7 O a2 c2 a3 c3 a5 c5 a6 c6 a7 c7 _ rfl w h
 by_cases e2:k=2
 · subst e2;exact UH tb n2 C n3 V col n5 E n6 W n7 m7 O a2 c2 a3 c3 a5 c5 a6 c6 a7 c7 _ rfl w h
 by_cases e3:k=3
 · subst e3;exact UG tb n2 C n3 V col n5 E n6 W n7 m7 O a2 c2 a3 c3 a5 c5 a6 c6 a7 c7 _ rfl w h
 by_cases e4:k=4
 · subst e4;exact UF tb n2 C n3 V col n5 E n6 W n7 m7 O a2 c2 a3 c3 a5 c5 a6 c6 a7 c7 _ rfl w h
 by_cases e5:k=5
 · subst e5;exact UE tb n2 C n3 V col n5 E n6 W n7 m7 O a2 c2 a3 c3 a5 c5 a6 c6 a7 c7 _ rfl w h
 exact UJ k e1 e2 e3 e4 e5 tb n2 C n3 V col n5 E n6 W n7 m7 O a2 c2 a3 c3 a5 c5 a6 c6 a7 c7 _ rfl w h
