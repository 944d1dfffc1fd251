import Derived.Test.YtfnfdllflgmhnaaGreatDoorUc
open Bool renaming and_eq_true → XV
open Go renaming Calls → XR, Value → XU, World → ο, bodyPost_ret → XL, heap_alloc_new → η, results_tmp2 → Xg, wpAnyH_done → XW, wpList_append_lies → XY, wp_region_held_drew → XO
open Go.Ending renaming returned → ρ
open Go.Ground renaming data → φ, phase → ξ
open Go.IntKind renaming i64 → κ
open Go.Obj renaming cells → γ
open Go.Operand renaming tmp → δ
open Go.Proofs.Tryz renaming prog → μ
open Go.RowKit renaming Below → υ, intOf → XX
open Go.RowKit.Below renaming refl → Xa
open Go.Value renaming bool → β, int → ι, slice → σ, string → τ, tuple → θ
open Go.World renaming news_of_block → XP, ownsRow_made → Xb, size_alloc → ω
open List renaming length_take → Xf, nil_append → Xk
open Nat renaming le_refl → XK, le_trans → Xe, zero_add → XT, zero_le → XZ
open Option renaming none → ν, some → ς
open Option.some renaming inj → XM
namespace Go.Proofs.YtfnfdllflgmhnaaGreatDoor
open Go.RowKit Go.Maps Go.WideMaps
set_option maxRecDepth 20000
set_option maxHeartbeats 16000000
abbrev O6:Oper:=⟨ς 64,.move (δ 10),194,"l5_replay.go:101",#[],ν⟩
abbrev O5:Oper:=⟨ς 65,.indexAddr 194 (δ 64) (.const (ι κ 0)),0,"l5_replay.go:101",#[⟨0,φ⟩],ν⟩
abbrev O3:Oper:=⟨ς 66,.load 3 (δ 65),3,"l5_replay.go:101",#[⟨1,φ⟩],ν⟩
abbrev O2:Oper:=⟨ς 67,.move (δ 10),194,"l5_replay.go:101",#[],ν⟩
abbrev O1:Oper:=⟨ς 68,.indexAddr 194 (δ 67) (.const (ι κ 1)),0,"l5_replay.go:101",#[⟨3,φ⟩],ν⟩
abbrev O0:Oper:=⟨ς 69,.load 3 (δ 68),3,"l5_replay.go:101",#[⟨4,φ⟩],ν⟩
abbrev Oz:Oper:=⟨ς 70,.binOp .eql 3 (δ 66) (δ 69) 3,4,"l5_replay.go:101",#[⟨2,φ⟩,⟨5,φ⟩],ν⟩
abbrev Oy:Oper:=⟨ς 12,.assign (δ 70),4,"l5_replay.go:101",#[⟨6,φ⟩,⟨0,ξ⟩,⟨1,ξ⟩,⟨2,ξ⟩,⟨3,ξ⟩,⟨4,ξ⟩,⟨5,ξ⟩,⟨6,ξ⟩],ν⟩
theorem Tryz.infoInt:(Tryz.prog.info? 3).map (λi=>(i.zero,i.size,i.bytes))=ς (ς (ι κ 0),1,8):=by kernel_rfl
theorem CD(L:List Int):(Ba L).length=L.length:=by simp [Ba]
theorem CC(L:List Int):∀ u∈Ba L,u.oneCell'=true:=by
 intro u hu;simp only [Ba,List.mem_map] at hu
 obtain⟨x,-,rfl⟩:=hu;rfl
theorem NE{L:List Int}{j:Nat}(h:j<L.length):(Ba L)[j]?=ς (ι κ (L.getD j 0)):=by
 simp [Ba,h]
theorem F1{I:Nat->Itm}{k:Nat}:∀ {m:Nat} {x:Int},ex I m=ς x->k<m->∃ d,ex I k=ς d/\Av (I k).o (I k).m (I k).s=true/\Aj (I k).o<=d
 | 0,x,h,hk=>by omega
 | m+1,x,h,hk=>by
  rw [ex] at h;split at h
  · cases h
  ·
   rename_i d hd
   by_cases e:k=m
   ·
    subst e;split at h
    ·
     rename_i hc
     exact⟨d,hd,hc.1,hc.2⟩
    · cases h
   · exact F1 hd (by omega)
def Sk(w:ο)(base g cap:Nat)(L:List Int):Prop:=w.ownsRow base 3 1 (σ (ς ⟨g,0,ν⟩) L.length cap) L.length (Ba L)
theorem Sk.at{w:ο}{base g cap:Nat}{L:List Int}(h:Sk w base g cap L){j:Nat}(hj:j<L.length):w.cell? ⟨g,j,ν⟩=ς (ι κ (L.getD j 0)):=by
 exact(h.cellAt j (by rw [Nat.mul_one];exact hj)).trans (NE hj)
theorem Ac{w:ο}{base e size n:Nat}{v:XU}{xs:List XU}(h:w.ownsRow base e size v n xs)(hv:v≠σ ν 0 0):∃ g cap,v=σ (ς ⟨g,0,ν⟩) n cap:=by
 rcases h.2 with ⟨e,-⟩ | ⟨g,cap,cur,e,-⟩
 · exact absurd e hv
 · exact⟨g,cap,e⟩
theorem Bj(L:List Int)(j q:Nat):(L.drop j).getD q 0=L.getD (j+q) 0:=by simp
theorem Sk.news{w:ο}{base g cap:Nat}{L:List Int}(h:Sk w base g cap L){j:Nat}:∀ i u,(Ba (L.take j))[i]?=ς u->w.cell? ((⟨g,0,ν⟩:Addr).add i)=ς u:=λi u hu=>by
 refine h.cells (g:=g) rfl i u ?_;unfold Ba at hu ⊢;rw [List.map_take,List.getElem?_take] at hu;split at hu
 · exact hu
 · cases hu
theorem Cq{w4:ο}{base g4 cap4 j:Nat}{L:List Int}{r:Int}(hjl:j<=L.length)(h:w4.ownsRow base 3 1 (σ (ς ⟨g4,0,ν⟩) (j+1) cap4) (j+1) (Ba (L.take j) ++ [ι κ r])):(L.take j ++ [r]).length=j+1/\Sk w4 base g4 cap4 (L.take j ++ [r]):=by
 have e1:(L.take j ++ [r]).length=j+1:=by simp;omega
 refine⟨e1,?_⟩;unfold Sk;rw [e1,show Ba (L.take j ++ [r])=Ba (L.take j) ++ [ι κ r] from by simp [Ba]]
 exact h
theorem IN{w:ο}{base g cap:Nat}{L:List Int}(h:Sk w base g cap L):L.length<=cap:=by
 rcases h.2 with ⟨e,-⟩ | ⟨g',cap',cur,e,-,-,h1,-⟩
 · simp at e
 ·
  simp only [Value.slice.injEq,Option.some.injEq,Addr.mk.injEq,and_true,true_and] at e
  omega
theorem GM{w a b:ο}{r:Option Nat}(h:υ w.heap.size w a)(g:a.grownBy b r)(hB:∀ x,r=ς x->w.heap.size<=x):υ w.heap.size w b:=
 ⟨g.os.trans h.os,g.tape.trans h.tape,g.output.trans h.output,Xe h.size g.size,λk hk=>(g.block k (Nat.lt_of_lt_of_le hk h.size) (λe=>by have:=hB k e.symm;omega)).trans (h.block k hk)⟩
theorem DN{o m:Int}{s:ByteArray}(h:Av o m s=true):1<=o/\o<=13:=by
 simp only [Av,Bool.or_eq_true,XV,decide_eq_true_eq] at h
 rcases h with ((⟨h,-⟩ | ⟨h,-⟩) | ⟨h,-⟩) | ⟨h,-⟩ <;> first | omega | (simp [Bb] at h;omega) | (simp at h;omega) | (revert h;simp;omega)
theorem N3(L:List Int)(j q:Nat)(h:j+q<L.length):((L.drop j).take (q+1)).all (λx=>x == 1)=(((L.drop j).take q).all (λx=>x == 1) && (L.getD (j+q) 0 == 1)):=by
 rw [List.take_add_one,List.all_append];congr 1
 rw [List.getElem?_drop];simp [h]
theorem CE(w:ο):υ w.heap.size w w.drew:=Aa (Xa _ _)
theorem I5(ac:Option Addr)(n cc:Nat)(C:Nat->Clm)(a:Option Addr)(m c:Nat)(I:Nat->Itm)(w:ο)(hC:CL w ac n C)(hI:IL w a m I)(hn:n<=1048576)(hm:m<=100)(hx:ex I m=ς 1) :
 XR μ 78 #[σ ac n cc,σ a m c] w λe w'=>e=ρ (θ #[ι κ (De C n I m).1,ι κ (De C n I m).2])/\υ w.heap.size w w':=by
 have HX:Hid (ex I m=ς 1):=hx;clear hx;obtain⟨i0,hi,hz0,hz1,hz2⟩:=info_parts Tryz.infoInt;have HI:Hid (Tryz.prog.info? 3=ς i0):=hi;clear hi;have hb0:=AE w (γ #[] 3);have hO0:Sk (w.alloc (γ #[] 3)) w.heap.size w.heap.size 0 []:=Xb w #[] 0 (XK _) (by unfold maxLen;omega) rfl;go_enter Tryz.func78,Tryz.ntmps78
 go_wp2;go_loopw [6,8,9,10,11,12,13,15,19] (λv _ _ _ _ _ _ _ i wr=>∃ (k g cap:Nat) (L:List Int),k<=m/\i=ι κ k/\v=σ (ς ⟨g,0,ν⟩) L.length cap/\ck C n I k=(L,0)/\Sk wr w.heap.size g cap L/\υ w.heap.size w wr) (λ_ _ _ _ _ _ _ _ i _=>m - (XX i).toNat)
 case atStart=>exact⟨0,w.heap.size,0,[],by omega,rfl,rfl,rfl,hO0,hb0⟩
 case round=>
  obtain⟨k,g,cap,L,hk,rfl,rfl,hck,hO,hb⟩:=hrel;have HCK:Hid (ck C n I k=(L,0)):=hck;clear hck;by_cases hlt:k<m
  rotate_left
  ·
   obtain rfl:k=m:=by omega
   have HL:L.length=1:=by
    have:=Hk (C:=C) (n:=n) HX.out (by rw [HCK.out]);rw [HCK.out] at this;simp only at this
    omega
   have c0:=hO.at (j:=0) (by omega);have h1:(0:Int)<L.length:=by omega
   obtain⟨x0,hx0⟩:∃ x,L.getD 0 0=x:=⟨_,rfl⟩;have e:Hid (De C n I k=(x0,0)):=by show _=_;unfold De;rw [HCK.out,←hx0];rfl
   rw [hx0] at c0;clear hx0;go_wp2;refine XL (Xg rfl _ _ _) rfl ⟨?_,hb⟩;rw [e.out];rfl
  have hsw:=hb.size;obtain⟨d,hd,hok,had⟩:=F1 HX.out hlt;have hlen:((L.length:Nat):Int)=d:=by
   have:=Hk (C:=C) (n:=n) hd (by rw [HCK.out]);rwa [HCK.out] at this
  have hll:=F0 hd;have hst:ck C n I (k+1)=if (Bk C n (I k) (L.drop (L.length - DZ (I k).o))).2≠0 then (L,(Bk C n (I k) (L.drop (L.length - DZ (I k).o))).2) else (L.take (L.length - DZ (I k).o) ++ [(Bk C n (I k) (L.drop (L.length - DZ (I k).o))).1],0):=by
   rw [ck,HCK.out];simp only [LY]
   rw [if_neg (by simp)];rfl
  obtain⟨b,off,rfl,c0,c1,c2,hs⟩:=hI.later hb k hlt;obtain⟨o,mm,s,hIk⟩:∃ o mm s,I k=⟨o,mm,s⟩:=⟨_,_,_,rfl⟩;rw [hIk] at hok had hst c0 c1 c2 hs;simp only at hok had hst c0 c1 c2 hs
  have hop:=DN hok;have ha:=EP o;have hal:=CF o;obtain⟨j,hj⟩:∃ j:Nat,L.length - DZ o=j:=⟨_,rfl⟩;rw [hj] at hst;have hj1:((L.length:Nat):Int) - Aj o=(j:Nat):=by omega
  have hjl:j<=L.length:=by omega
  have hjj:(j:Int)<=L.length:=by omega
  have HST:Hid (ck C n I (k+1)=if (Bk C n ⟨o,mm,s⟩ (L.drop j)).2≠0 then (L,(Bk C n ⟨o,mm,s⟩ (L.drop j)).2) else (L.take j ++ [(Bk C n ⟨o,mm,s⟩ (L.drop j)).1],0)):=hst
  have HFL:Hid (∀ cd:Int,cd≠0->(Bk C n ⟨o,mm,s⟩ (L.drop j)).2=cd->De C n I m=(0,cd)):=λcd h0 h1=>by
   have e1:ck C n I (k+1)=(L,cd):=by rw [HST.out,h1,if_pos h0]
   have e2:=D4 (C:=C) (n:=n) (I:=I) (k:=k+1) (by rw [e1];exact h0) m hlt;unfold De;rw [e2,e1,if_pos h0]
  have hj100:j<=100:=by omega
  have hcp:=IN hO;have HLE:Hid (((L.length:Nat):Int)=d/\L.length - DZ o=j/\L.length<=100):=⟨hlen,hj,by omega⟩;clear hst hIk hj ha had hd hok hlen;by_cases o2:o=2
  ·
   subst o2;have HT:Hid (Bk C n ⟨2,mm,s⟩ (L.drop j)=(2,0)):=by show _=_;simp [Bk]
   have HsW:Hid ((wr.alloc (γ #[ι κ 2,ι κ mm,τ s] 135)).heap.size=wr.heap.size+1):=ω _ _;have HOE:Hid (((wr.alloc (γ #[ι κ 2,ι κ mm,τ s] 135)).alloc (γ #[] 3)).ownsRow w.heap.size 3 1 (σ (ς ⟨wr.heap.size+1,0,ν⟩) 0 0) 0 []):=by
    have q:=Xb (base:=w.heap.size) (e:=3) (size:=1) (wr.alloc (γ #[ι κ 2,ι κ mm,τ s] 135)) #[] 0 (by rw [HsW.out];omega) (by unfold maxLen;omega) rfl;rw [HsW.out] at q;exact q
   have hOW:Sk (wr.alloc (γ #[ι κ 2,ι κ mm,τ s] 135)) w.heap.size g cap L:=AH hO (AE _ _);have hbW:υ w.heap.size w (wr.alloc (γ #[ι κ 2,ι κ mm,τ s] 135)):=AA hb (AE _ _);by_cases hcj:j<cap
   ·
    have hcj1:(j:Int)<cap:=by omega
    go_wp2_with (first | (at_builtin;have _h:=hb5;refine XY _ rfl _ _ _ rfl w.heap.size 3 i0 (ι κ 0) 1 8 Tryz.underlying194 HI.out hz0 hz1 hz2 rfl (by omega) (σ (ς ⟨g5,0,ν⟩) j cap5) j (Ba (L.take j)) rfl (hown5.alloc _) ⟨w5.heap.size,0,ν⟩ 1 1 [ι κ (2)] rfl rfl (XP (η w5 _)) (Bu _ rfl) (by omega) (by unfold maxLen;have:=HLE.out;omega) (by have:=HLE.out;omega) (by simp;omega) _ rfl ?_;intro g6 cap6 w6 hO6 hgr6 hat6 hlt6) | (at_builtin;refine wpList_append_own _ rfl _ _ 194 rfl w.heap.size 3 i0 (ι κ 0) 1 8 Tryz.underlying194 HI.out hz0 hz1 hz2 rfl (by omega) (σ (ς ⟨wr.heap.size+1,0,ν⟩) 0 0) 0 [] rfl HOE.out ⟨g,0,ν⟩ j cap (Ba (L.take j)) rfl (by rw [CD,Xf];omega) (Sk.news (AH hOW (AE _ _))) (CC _) (by unfold maxLen;have:=HLE.out;omega) (by have:=HLE.out;omega) (by simp;omega) ?_;intro v1 w5 hown5 hgrow5 hnil5;obtain⟨g5,cap5,rfl⟩:=Ac hown5 (λe=>by have:=hnil5.1 e;simp at this);rw [XT,Xk] at hown5;have hb5:=GM (AA hbW (AE _ (γ #[] 3))) hgrow5 (λx hx=>by have e:wr.heap.size+1=x:=XM hx;omega);have hs5:=hb5.size;clear hnil5) | (go_at_call 80;refine(BO (2) _).mono ?_;rintro e w3 ⟨rfl,rfl⟩))
    obtain⟨q1,q2⟩:=Cq hjl hO6;have hb6:=GM (hb5.alloc hb5.size _) hgr6 (λx hx=>by have e:g5=x:=XM hx;have:=(hown5.lt g5 rfl).1;omega);have q3:ck C n I (k+1)=(L.take j ++ [2],0):=by rw [HST.out,HT.out];rfl
    go_roundw
    case rel=>exact⟨k+1,g6,cap6,L.take j ++ [2],by omega,by go_num,by rw [q1],q3,q2,hb6⟩
    case measure=>simp [XX];omega
   ·
    obtain rfl:j=cap:=by omega
    go_wp2_with (first | (at_builtin;have _h:=hb5;refine XY _ rfl _ _ _ rfl w.heap.size 3 i0 (ι κ 0) 1 8 Tryz.underlying194 HI.out hz0 hz1 hz2 rfl (by omega) (σ (ς ⟨g5,0,ν⟩) j cap5) j (Ba (L.take j)) rfl (hown5.alloc _) ⟨w5.heap.size,0,ν⟩ 1 1 [ι κ (2)] rfl rfl (XP (η w5 _)) (Bu _ rfl) (by omega) (by unfold maxLen;have:=HLE.out;omega) (by have:=HLE.out;omega) (by simp;omega) _ rfl ?_;intro g6 cap6 w6 hO6 hgr6 hat6 hlt6) | (at_builtin;refine wpList_append_own _ rfl _ _ 194 rfl w.heap.size 3 i0 (ι κ 0) 1 8 Tryz.underlying194 HI.out hz0 hz1 hz2 rfl (by omega) (σ (ς ⟨wr.heap.size+1,0,ν⟩) 0 0) 0 [] rfl HOE.out ⟨g,0,ν⟩ j j (Ba (L.take j)) rfl (by rw [CD,Xf];omega) (Sk.news (AH hOW (AE _ _))) (CC _) (by unfold maxLen;have:=HLE.out;omega) (by have:=HLE.out;omega) (by simp;omega) ?_;intro v1 w5 hown5 hgrow5 hnil5;obtain⟨g5,cap5,rfl⟩:=Ac hown5 (λe=>by have:=hnil5.1 e;simp at this);rw [XT,Xk] at hown5;have hb5:=GM (AA hbW (AE _ (γ #[] 3))) hgrow5 (λx hx=>by have e:wr.heap.size+1=x:=XM hx;omega);have hs5:=hb5.size;clear hnil5) | (go_at_call 80;refine(BO (2) _).mono ?_;rintro e w3 ⟨rfl,rfl⟩))
    obtain⟨q1,q2⟩:=Cq hjl hO6;have hb6:=GM (hb5.alloc hb5.size _) hgr6 (λx hx=>by have e:g5=x:=XM hx;have:=(hown5.lt g5 rfl).1;omega);have q3:ck C n I (k+1)=(L.take j ++ [2],0):=by rw [HST.out,HT.out];rfl
    go_roundw
    case rel=>exact⟨k+1,g6,cap6,L.take j ++ [2],by omega,by go_num,by rw [q1],q3,q2,hb6⟩
    case measure=>simp [XX];omega
  by_cases o3:o=3
  ·
   subst o3;have HsW:Hid ((wr.alloc (γ #[ι κ 3,ι κ mm,τ s] 135)).heap.size=wr.heap.size+1):=ω _ _;have HOE:Hid (((wr.alloc (γ #[ι κ 3,ι κ mm,τ s] 135)).alloc (γ #[] 3)).ownsRow w.heap.size 3 1 (σ (ς ⟨wr.heap.size+1,0,ν⟩) 0 0) 0 []):=by
    have q:=Xb (base:=w.heap.size) (e:=3) (size:=1) (wr.alloc (γ #[ι κ 3,ι κ mm,τ s] 135)) #[] 0 (by rw [HsW.out];omega) (by unfold maxLen;omega) rfl;rw [HsW.out] at q;exact q
   have hOW:Sk (wr.alloc (γ #[ι κ 3,ι κ mm,τ s] 135)) w.heap.size g cap L:=AH hO (AE _ _);have hbW:υ w.heap.size w (wr.alloc (γ #[ι κ 3,ι κ mm,τ s] 135)):=AA hb (AE _ _);cases hcol:Bo C s n with
   | none=>
    have HT:Hid (Bk C n ⟨3,mm,s⟩ (L.drop j)=(0,3)):=by show _=_;simp [Bk,hcol]
    have HZ:Hj (Bo C s n)=-1:=by rw [hcol];rfl
    clear hcol;by_cases hcj:j<cap
    ·
     have hcj1:(j:Int)<cap:=by omega
     go_wp2_with (first | (go_at_call 81;refine(ED ac n cc C s _ (hC.later hbW) hn).mono ?_;rintro e w4 ⟨rfl,hb4⟩;have B4:=AA hbW hb4;have O4:=AH hOW hb4;have HOE4:Hid ((w4.alloc (γ #[] 3)).ownsRow w.heap.size 3 1 (σ (ς ⟨w4.heap.size,0,ν⟩) 0 0) 0 []):=Xb w4 #[] 0 (by have:=B4.size;omega) (by unfold maxLen;omega) rfl;have hs4:=B4.size;rw [HZ]) | (go_at_call 80;refine(BO (3) _).mono ?_;rintro e w3 ⟨rfl,rfl⟩))
     have hE:=HFL.out 3 (by decide) (by rw [HT.out]);refine XL (Xg rfl _ _ _) rfl ⟨?_,B4⟩;rw [hE];rfl
    ·
     obtain rfl:j=cap:=by omega
     go_wp2_with (first | (go_at_call 81;refine(ED ac n cc C s _ (hC.later hbW) hn).mono ?_;rintro e w4 ⟨rfl,hb4⟩;have B4:=AA hbW hb4;have O4:=AH hOW hb4;have HOE4:Hid ((w4.alloc (γ #[] 3)).ownsRow w.heap.size 3 1 (σ (ς ⟨w4.heap.size,0,ν⟩) 0 0) 0 []):=Xb w4 #[] 0 (by have:=B4.size;omega) (by unfold maxLen;omega) rfl;have hs4:=B4.size;rw [HZ]) | (go_at_call 80;refine(BO (3) _).mono ?_;rintro e w3 ⟨rfl,rfl⟩))
     have hE:=HFL.out 3 (by decide) (by rw [HT.out]);refine XL (Xg rfl _ _ _) rfl ⟨?_,B4⟩;rw [hE];rfl
   | some q=>
    have HT:Hid (Bk C n ⟨3,mm,s⟩ (L.drop j)=((C q).t,0)):=by show _=_;simp [Bk,hcol]
    have HZ:Hj (Bo C s n)=(q:Int):=by rw [hcol];rfl
    have hq:=(Cu hcol).1;have hq0:(0:Int)<=(q:Int):=by omega
    have hq1:(q:Int)<n:=by omega
    clear hcol;obtain⟨b2,off2,rfl,-⟩:=hC q hq;by_cases hcj:j<cap
    ·
     have hcj1:(j:Int)<cap:=by omega
     go_wp2_with (first | (at_builtin;have _h:=hb5;refine XY _ rfl _ _ _ rfl w.heap.size 3 i0 (ι κ 0) 1 8 Tryz.underlying194 HI.out hz0 hz1 hz2 rfl (by omega) (σ (ς ⟨g5,0,ν⟩) j cap5) j (Ba (L.take j)) rfl (hown5.alloc _) ⟨w5.heap.size,0,ν⟩ 1 1 [ι κ ((C q).t)] rfl rfl (XP (η w5 _)) (Bu _ rfl) (by omega) (by unfold maxLen;have:=HLE.out;omega) (by have:=HLE.out;omega) (by simp;omega) _ rfl ?_;intro g6 cap6 w6 hO6 hgr6 hat6 hlt6) | (at_builtin;refine wpList_append_own _ rfl _ _ 194 rfl w.heap.size 3 i0 (ι κ 0) 1 8 Tryz.underlying194 HI.out hz0 hz1 hz2 rfl (by omega) (σ (ς ⟨w4.heap.size,0,ν⟩) 0 0) 0 [] rfl HOE4.out ⟨g,0,ν⟩ j cap (Ba (L.take j)) rfl (by rw [CD,Xf];omega) (Sk.news (AH O4 (AE _ _))) (CC _) (by unfold maxLen;have:=HLE.out;omega) (by have:=HLE.out;omega) (by simp;omega) ?_;intro v1 w5 hown5 hgrow5 hnil5;obtain⟨g5,cap5,rfl⟩:=Ac hown5 (λe=>by have:=hnil5.1 e;simp at this);rw [XT,Xk] at hown5;have hb5:=GM (AA B4 (AE _ (γ #[] 3))) hgrow5 (λx hx=>by have e:w4.heap.size=x:=XM hx;omega);have hs5:=hb5.size;clear hnil5) | (go_at_call 81;refine(ED _ n cc C s _ (hC.later hbW) hn).mono ?_;rintro e w4 ⟨rfl,hb4⟩;have B4:=AA hbW hb4;have O4:=AH hOW hb4;have HOE4:Hid ((w4.alloc (γ #[] 3)).ownsRow w.heap.size 3 1 (σ (ς ⟨w4.heap.size,0,ν⟩) 0 0) 0 []):=Xb w4 #[] 0 (by have:=B4.size;omega) (by unfold maxLen;omega) rfl;have hs4:=B4.size;rw [HZ];obtain⟨b3,off3,e3,t0,t1,-⟩:=hC.later B4 q hq;obtain⟨rfl,rfl⟩:b2=b3/\off2=off3:=(by simpa using e3);clear e3) | (go_at_call 80;refine(BO (3) _).mono ?_;rintro e w3 ⟨rfl,rfl⟩))
     obtain⟨q1,q2⟩:=Cq hjl hO6;have hb6:=GM (hb5.alloc hb5.size _) hgr6 (λx hx=>by have e:g5=x:=XM hx;have:=(hown5.lt g5 rfl).1;omega);have q3:ck C n I (k+1)=(L.take j ++ [(C q).t],0):=by rw [HST.out,HT.out];rfl
     go_roundw
     case rel=>exact⟨k+1,g6,cap6,L.take j ++ [(C q).t],by omega,by go_num,by rw [q1],q3,q2,hb6⟩
     case measure=>simp [XX];omega
    ·
     obtain rfl:j=cap:=by omega
     go_wp2_with (first | (at_builtin;have _h:=hb5;refine XY _ rfl _ _ _ rfl w.heap.size 3 i0 (ι κ 0) 1 8 Tryz.underlying194 HI.out hz0 hz1 hz2 rfl (by omega) (σ (ς ⟨g5,0,ν⟩) j cap5) j (Ba (L.take j)) rfl (hown5.alloc _) ⟨w5.heap.size,0,ν⟩ 1 1 [ι κ ((C q).t)] rfl rfl (XP (η w5 _)) (Bu _ rfl) (by omega) (by unfold maxLen;have:=HLE.out;omega) (by have:=HLE.out;omega) (by simp;omega) _ rfl ?_;intro g6 cap6 w6 hO6 hgr6 hat6 hlt6) | (at_builtin;refine wpList_append_own _ rfl _ _ 194 rfl w.heap.size 3 i0 (ι κ 0) 1 8 Tryz.underlying194 HI.out hz0 hz1 hz2 rfl (by omega) (σ (ς ⟨w4.heap.size,0,ν⟩) 0 0) 0 [] rfl HOE4.out ⟨g,0,ν⟩ j j (Ba (L.take j)) rfl (by rw [CD,Xf];omega) (Sk.news (AH O4 (AE _ _))) (CC _) (by unfold maxLen;have:=HLE.out;omega) (by have:=HLE.out;omega) (by simp;omega) ?_;intro v1 w5 hown5 hgrow5 hnil5;obtain⟨g5,cap5,rfl⟩:=Ac hown5 (λe=>by have:=hnil5.1 e;simp at this);rw [XT,Xk] at hown5;have hb5:=GM (AA B4 (AE _ (γ #[] 3))) hgrow5 (λx hx=>by have e:w4.heap.size=x:=XM hx;omega);have hs5:=hb5.size;clear hnil5) | (go_at_call 81;refine(ED _ n cc C s _ (hC.later hbW) hn).mono ?_;rintro e w4 ⟨rfl,hb4⟩;have B4:=AA hbW hb4;have O4:=AH hOW hb4;have HOE4:Hid ((w4.alloc (γ #[] 3)).ownsRow w.heap.size 3 1 (σ (ς ⟨w4.heap.size,0,ν⟩) 0 0) 0 []):=Xb w4 #[] 0 (by have:=B4.size;omega) (by unfold maxLen;omega) rfl;have hs4:=B4.size;rw [HZ];obtain⟨b3,off3,e3,t0,t1,-⟩:=hC.later B4 q hq;obtain⟨rfl,rfl⟩:b2=b3/\off2=off3:=(by simpa using e3);clear e3) | (go_at_call 80;refine(BO (3) _).mono ?_;rintro e w3 ⟨rfl,rfl⟩))
     obtain⟨q1,q2⟩:=Cq hjl hO6;have hb6:=GM (hb5.alloc hb5.size _) hgr6 (λx hx=>by have e:g5=x:=XM hx;have:=(hown5.lt g5 rfl).1;omega);have q3:ck C n I (k+1)=(L.take j ++ [(C q).t],0):=by rw [HST.out,HT.out];rfl
     go_roundw
     case rel=>exact⟨k+1,g6,cap6,L.take j ++ [(C q).t],by omega,by go_num,by rw [q1],q3,q2,hb6⟩
     case measure=>simp [XX];omega
  by_cases o7:o=7
  ·
   subst o7;have ea:Aj 7=2:=by simp [Aj]
   have hjL:L.length=j+2:=by omega
   have hjc:j<cap:=by omega
   have hjc1:(j:Int)<cap:=by omega
   have ix0:(0:Int)<((L.length - j:Nat):Int):=by omega
   have ix1:(1:Int)<((L.length - j:Nat):Int):=by omega
   have iz0:0<L.length - j:=by omega
   have iz1:1<L.length - j:=by omega
   have HsW:Hid ((wr.alloc (γ #[ι κ 7,ι κ mm,τ s] 135)).heap.size=wr.heap.size+1):=ω _ _;have HOE:Hid (((wr.alloc (γ #[ι κ 7,ι κ mm,τ s] 135)).alloc (γ #[] 3)).ownsRow w.heap.size 3 1 (σ (ς ⟨wr.heap.size+1,0,ν⟩) 0 0) 0 []):=by
    have q:=Xb (base:=w.heap.size) (e:=3) (size:=1) (wr.alloc (γ #[ι κ 7,ι κ mm,τ s] 135)) #[] 0 (by rw [HsW.out];omega) (by unfold maxLen;omega) rfl;rw [HsW.out] at q;exact q
   have hOW:Sk (wr.alloc (γ #[ι κ 7,ι κ mm,τ s] 135)) w.heap.size g cap L:=AH hO (AE _ _);have hbW:υ w.heap.size w (wr.alloc (γ #[ι κ 7,ι κ mm,τ s] 135)):=AA hb (AE _ _);have a0:=hOW.at (j:=j) (by omega);have a1:=hOW.at (j:=j+1) (by omega);have HX0:Hid ((L.drop j).getD 0 0=L.getD j 0):=Bj L j 0;have HX1:Hid ((L.drop j).getD 1 0=L.getD (j+1) 0):=Bj L j 1;obtain⟨x,hx⟩:∃ x,L.getD j 0=x:=⟨_,rfl⟩;rw [hx] at a0 HX0;clear hx;obtain⟨y,hy⟩:∃ y,L.getD (j+1) 0=y:=⟨_,rfl⟩;rw [hy] at a1 HX1;clear hy;clear ea hjL;have HOEd:Hid (((wr.alloc (γ #[ι κ 7,ι κ mm,τ s] 135)).drew.alloc (γ #[] 3)).ownsRow w.heap.size 3 1 (σ (ς ⟨wr.heap.size+1,0,ν⟩) 0 0) 0 []):=by
    have q:=Xb (base:=w.heap.size) (e:=3) (size:=1) (wr.alloc (γ #[ι κ 7,ι κ mm,τ s] 135)).drew #[] 0 (by show w.heap.size<=(wr.alloc (γ #[ι κ 7,ι κ mm,τ s] 135)).heap.size;rw [HsW.out];omega) (by unfold maxLen;omega) rfl;have e:(wr.alloc (γ #[ι κ 7,ι κ mm,τ s] 135)).drew.heap.size=wr.heap.size+1:=HsW.out;rw [e] at q;exact q
   have hOd:Sk (wr.alloc (γ #[ι κ 7,ι κ mm,τ s] 135)).drew w.heap.size g cap L:=AH hOW (CE _);have hbd:υ w.heap.size w (wr.alloc (γ #[ι κ 7,ι κ mm,τ s] 135)).drew:=AA hbW (CE _);by_cases hxy:x=y
   ·
    have HT:Hid (Bk C n ⟨7,mm,s⟩ (L.drop j)=(1,0)):=by show _=_;simp only [Bk];rw [HX0.out,HX1.out,hxy];simp
    subst hxy;go_upto_region 24 with (go_at_call 80;refine(BO (7) _).mono ?_;rintro e w3 ⟨rfl,rfl⟩)
    refine XO (S:=λx=>υ (wr.alloc (γ #[ι κ 7,ι κ mm,τ s] 135)).heap.size (wr.alloc (γ #[ι κ 7,ι κ mm,τ s] 135)) x) (by kernel_rfl) (CE _) (λjH=>?_);refine tk 0 O6 (λx jS=>by go_simp<;>rfl) jH ?_
    try simp only [zS]
    refine tk 1 O5 (λx jS=>by go_simp<;>rfl) jH ?_
    try simp only [zS]
    refine tk 2 O3 (λx jS=>by have k0:=AB jS a0;have k1:=AB jS a1;go_simp<;>rfl) jH ?_
    try simp only [zS]
    refine tk 3 O2 (λx jS=>by go_simp<;>rfl) jH ?_
    try simp only [zS]
    refine tk 4 O1 (λx jS=>by go_simp<;>rfl) jH ?_
    try simp only [zS]
    refine tk 5 O0 (λx jS=>by have k0:=AB jS a0;have k1:=AB jS a1;go_simp<;>rfl) jH ?_
    try simp only [zS]
    refine tk 6 Oz (λx jS=>by go_simp<;>rfl) jH ?_
    try simp only [zS]
    refine tk 7 Oy (λx jS=>by go_simp<;>rfl) jH ?_
    try simp only [zS]
    refine XW (by kernel_rfl) ?_ _;clear jH;go_wp2_with (first | (at_builtin;have _h:=hb5;refine XY _ rfl _ _ _ rfl w.heap.size 3 i0 (ι κ 0) 1 8 Tryz.underlying194 HI.out hz0 hz1 hz2 rfl (by omega) (σ (ς ⟨g5,0,ν⟩) j cap5) j (Ba (L.take j)) rfl (hown5.alloc _) ⟨w5.heap.size,0,ν⟩ 1 1 [ι κ (1)] rfl rfl (XP (η w5 _)) (Bu _ rfl) (by omega) (by unfold maxLen;have:=HLE.out;omega) (by have:=HLE.out;omega) (by simp;omega) _ rfl ?_;intro g6 cap6 w6 hO6 hgr6 hat6 hlt6) | (at_builtin;refine wpList_append_own _ rfl _ _ 194 rfl w.heap.size 3 i0 (ι κ 0) 1 8 Tryz.underlying194 HI.out hz0 hz1 hz2 rfl (by omega) (σ (ς ⟨wr.heap.size+1,0,ν⟩) 0 0) 0 [] rfl HOEd.out ⟨g,0,ν⟩ j cap (Ba (L.take j)) rfl (by rw [CD,Xf];omega) (Sk.news (AH hOd (AE _ _))) (CC _) (by unfold maxLen;have:=HLE.out;omega) (by have:=HLE.out;omega) (by simp;omega) ?_;intro v1 w5 hown5 hgrow5 hnil5;obtain⟨g5,cap5,rfl⟩:=Ac hown5 (λe=>by have:=hnil5.1 e;simp at this);rw [XT,Xk] at hown5;have hb5:=GM (AA hbd (AE _ (γ #[] 3))) hgrow5 (λx hx=>by have e:wr.heap.size+1=x:=XM hx;omega);have hs5:=hb5.size;clear hnil5))
    obtain⟨q1,q2⟩:=Cq hjl hO6;have hb6:=GM (hb5.alloc hb5.size _) hgr6 (λx hx=>by have e:g5=x:=XM hx;have:=(hown5.lt g5 rfl).1;omega);have q3:ck C n I (k+1)=(L.take j ++ [1],0):=by rw [HST.out,HT.out];rfl
    go_roundw
    case rel=>exact⟨k+1,g6,cap6,L.take j ++ [1],by omega,by go_num,by rw [q1],q3,q2,hb6⟩
    case measure=>simp [XX];omega
   ·
    have HT:Hid (Bk C n ⟨7,mm,s⟩ (L.drop j)=(0,4)):=by show _=_;simp only [Bk];rw [HX0.out,HX1.out];simp [hxy]
    have nxy:(x == y)=false:=by simpa using hxy
    go_upto_region 24 with (go_at_call 80;refine(BO (7) _).mono ?_;rintro e w3 ⟨rfl,rfl⟩)
    refine XO (S:=λx=>υ (wr.alloc (γ #[ι κ 7,ι κ mm,τ s] 135)).heap.size (wr.alloc (γ #[ι κ 7,ι κ mm,τ s] 135)) x) (by kernel_rfl) (CE _) (λjH=>?_);refine tk 0 O6 (λx jS=>by go_simp<;>rfl) jH ?_
    try simp only [zS]
    refine tk 1 O5 (λx jS=>by go_simp<;>rfl) jH ?_
    try simp only [zS]
    refine tk 2 O3 (λx jS=>by have k0:=AB jS a0;have k1:=AB jS a1;go_simp<;>rfl) jH ?_
    try simp only [zS]
    refine tk 3 O2 (λx jS=>by go_simp<;>rfl) jH ?_
    try simp only [zS]
    refine tk 4 O1 (λx jS=>by go_simp<;>rfl) jH ?_
    try simp only [zS]
    refine tk 5 O0 (λx jS=>by have k0:=AB jS a0;have k1:=AB jS a1;go_simp<;>rfl) jH ?_
    try simp only [zS]
    refine tk 6 Oz (λx jS=>by go_simp<;>rfl) jH ?_
    try simp only [zS]
    refine tk 7 Oy (λx jS=>by go_simp<;>rfl) jH ?_
    try simp only [zS]
    refine XW (by kernel_rfl) ?_ _;clear jH;go_wp2;have hE:=HFL.out 4 (by decide) (by rw [HT.out]);refine XL (Xg rfl _ _ _) rfl ⟨?_,hbd⟩;rw [hE];rfl
  by_cases o8:o=8
  ·
   subst o8;have ea:Aj 8=2:=by simp [Aj]
   have hjL:L.length=j+2:=by omega
   have hjc:j<cap:=by omega
   have hjc1:(j:Int)<cap:=by omega
   have ix0:(0:Int)<((L.length - j:Nat):Int):=by omega
   have ix1:(1:Int)<((L.length - j:Nat):Int):=by omega
   have iz0:0<L.length - j:=by omega
   have iz1:1<L.length - j:=by omega
   have HsW:Hid ((wr.alloc (γ #[ι κ 8,ι κ mm,τ s] 135)).heap.size=wr.heap.size+1):=ω _ _;have HOE:Hid (((wr.alloc (γ #[ι κ 8,ι κ mm,τ s] 135)).alloc (γ #[] 3)).ownsRow w.heap.size 3 1 (σ (ς ⟨wr.heap.size+1,0,ν⟩) 0 0) 0 []):=by
    have q:=Xb (base:=w.heap.size) (e:=3) (size:=1) (wr.alloc (γ #[ι κ 8,ι κ mm,τ s] 135)) #[] 0 (by rw [HsW.out];omega) (by unfold maxLen;omega) rfl;rw [HsW.out] at q;exact q
   have hOW:Sk (wr.alloc (γ #[ι κ 8,ι κ mm,τ s] 135)) w.heap.size g cap L:=AH hO (AE _ _);have hbW:υ w.heap.size w (wr.alloc (γ #[ι κ 8,ι κ mm,τ s] 135)):=AA hb (AE _ _);have a0:=hOW.at (j:=j) (by omega);have a1:=hOW.at (j:=j+1) (by omega);have HX0:Hid ((L.drop j).getD 0 0=L.getD j 0):=Bj L j 0;have HX1:Hid ((L.drop j).getD 1 0=L.getD (j+1) 0):=Bj L j 1;obtain⟨x,hx⟩:∃ x,L.getD j 0=x:=⟨_,rfl⟩;rw [hx] at a0 HX0;clear hx;obtain⟨y,hy⟩:∃ y,L.getD (j+1) 0=y:=⟨_,rfl⟩;rw [hy] at a1 HX1;clear hy;clear ea hjL;have HOEd:Hid (((wr.alloc (γ #[ι κ 8,ι κ mm,τ s] 135)).drew.alloc (γ #[] 3)).ownsRow w.heap.size 3 1 (σ (ς ⟨wr.heap.size+1,0,ν⟩) 0 0) 0 []):=by
    have q:=Xb (base:=w.heap.size) (e:=3) (size:=1) (wr.alloc (γ #[ι κ 8,ι κ mm,τ s] 135)).drew #[] 0 (by show w.heap.size<=(wr.alloc (γ #[ι κ 8,ι κ mm,τ s] 135)).heap.size;rw [HsW.out];omega) (by unfold maxLen;omega) rfl;have e:(wr.alloc (γ #[ι κ 8,ι κ mm,τ s] 135)).drew.heap.size=wr.heap.size+1:=HsW.out;rw [e] at q;exact q
   have hOd:Sk (wr.alloc (γ #[ι κ 8,ι κ mm,τ s] 135)).drew w.heap.size g cap L:=AH hOW (CE _);have hbd:υ w.heap.size w (wr.alloc (γ #[ι κ 8,ι κ mm,τ s] 135)).drew:=AA hbW (CE _);by_cases hxy:x=y
   ·
    have HT:Hid (Bk C n ⟨8,mm,s⟩ (L.drop j)=(1,0)):=by show _=_;simp only [Bk];rw [HX0.out,HX1.out,hxy];simp
    subst hxy;go_upto_region 24 with (go_at_call 80;refine(BO (8) _).mono ?_;rintro e w3 ⟨rfl,rfl⟩)
    refine XO (S:=λx=>υ (wr.alloc (γ #[ι κ 8,ι κ mm,τ s] 135)).heap.size (wr.alloc (γ #[ι κ 8,ι κ mm,τ s] 135)) x) (by kernel_rfl) (CE _) (λjH=>?_);refine tk 0 O6 (λx jS=>by go_simp<;>rfl) jH ?_
    try simp only [zS]
    refine tk 1 O5 (λx jS=>by go_simp<;>rfl) jH ?_
    try simp only [zS]
    refine tk 2 O3 (λx jS=>by have k0:=AB jS a0;have k1:=AB jS a1;go_simp<;>rfl) jH ?_
    try simp only [zS]
    refine tk 3 O2 (λx jS=>by go_simp<;>rfl) jH ?_
    try simp only [zS]
    refine tk 4 O1 (λx jS=>by go_simp<;>rfl) jH ?_
    try simp only [zS]
    refine tk 5 O0 (λx jS=>by have k0:=AB jS a0;have k1:=AB jS a1;go_simp<;>rfl) jH ?_
    try simp only [zS]
    refine tk 6 Oz (λx jS=>by go_simp<;>rfl) jH ?_
    try simp only [zS]
    refine tk 7 Oy (λx jS=>by go_simp<;>rfl) jH ?_
    try simp only [zS]
    refine XW (by kernel_rfl) ?_ _;clear jH;go_wp2_with (first | (at_builtin;have _h:=hb5;refine XY _ rfl _ _ _ rfl w.heap.size 3 i0 (ι κ 0) 1 8 Tryz.underlying194 HI.out hz0 hz1 hz2 rfl (by omega) (σ (ς ⟨g5,0,ν⟩) j cap5) j (Ba (L.take j)) rfl (hown5.alloc _) ⟨w5.heap.size,0,ν⟩ 1 1 [ι κ (1)] rfl rfl (XP (η w5 _)) (Bu _ rfl) (by omega) (by unfold maxLen;have:=HLE.out;omega) (by have:=HLE.out;omega) (by simp;omega) _ rfl ?_;intro g6 cap6 w6 hO6 hgr6 hat6 hlt6) | (at_builtin;refine wpList_append_own _ rfl _ _ 194 rfl w.heap.size 3 i0 (ι κ 0) 1 8 Tryz.underlying194 HI.out hz0 hz1 hz2 rfl (by omega) (σ (ς ⟨wr.heap.size+1,0,ν⟩) 0 0) 0 [] rfl HOEd.out ⟨g,0,ν⟩ j cap (Ba (L.take j)) rfl (by rw [CD,Xf];omega) (Sk.news (AH hOd (AE _ _))) (CC _) (by unfold maxLen;have:=HLE.out;omega) (by have:=HLE.out;omega) (by simp;omega) ?_;intro v1 w5 hown5 hgrow5 hnil5;obtain⟨g5,cap5,rfl⟩:=Ac hown5 (λe=>by have:=hnil5.1 e;simp at this);rw [XT,Xk] at hown5;have hb5:=GM (AA hbd (AE _ (γ #[] 3))) hgrow5 (λx hx=>by have e:wr.heap.size+1=x:=XM hx;omega);have hs5:=hb5.size;clear hnil5))
    obtain⟨q1,q2⟩:=Cq hjl hO6;have hb6:=GM (hb5.alloc hb5.size _) hgr6 (λx hx=>by have e:g5=x:=XM hx;have:=(hown5.lt g5 rfl).1;omega);have q3:ck C n I (k+1)=(L.take j ++ [1],0):=by rw [HST.out,HT.out];rfl
    go_roundw
    case rel=>exact⟨k+1,g6,cap6,L.take j ++ [1],by omega,by go_num,by rw [q1],q3,q2,hb6⟩
    case measure=>simp [XX];omega
   ·
    have HT:Hid (Bk C n ⟨8,mm,s⟩ (L.drop j)=(0,4)):=by show _=_;simp only [Bk];rw [HX0.out,HX1.out];simp [hxy]
    have nxy:(x == y)=false:=by simpa using hxy
    go_upto_region 24 with (go_at_call 80;refine(BO (8) _).mono ?_;rintro e w3 ⟨rfl,rfl⟩)
    refine XO (S:=λx=>υ (wr.alloc (γ #[ι κ 8,ι κ mm,τ s] 135)).heap.size (wr.alloc (γ #[ι κ 8,ι κ mm,τ s] 135)) x) (by kernel_rfl) (CE _) (λjH=>?_);refine tk 0 O6 (λx jS=>by go_simp<;>rfl) jH ?_
    try simp only [zS]
    refine tk 1 O5 (λx jS=>by go_simp<;>rfl) jH ?_
    try simp only [zS]
    refine tk 2 O3 (λx jS=>by have k0:=AB jS a0;have k1:=AB jS a1;go_simp<;>rfl) jH ?_
    try simp only [zS]
    refine tk 3 O2 (λx jS=>by go_simp<;>rfl) jH ?_
    try simp only [zS]
    refine tk 4 O1 (λx jS=>by go_simp<;>rfl) jH ?_
    try simp only [zS]
    refine tk 5 O0 (λx jS=>by have k0:=AB jS a0;have k1:=AB jS a1;go_simp<;>rfl) jH ?_
    try simp only [zS]
    refine tk 6 Oz (λx jS=>by go_simp<;>rfl) jH ?_
    try simp only [zS]
    refine tk 7 Oy (λx jS=>by go_simp<;>rfl) jH ?_
    try simp only [zS]
    refine XW (by kernel_rfl) ?_ _;clear jH;go_wp2;have hE:=HFL.out 4 (by decide) (by rw [HT.out]);refine XL (Xg rfl _ _ _) rfl ⟨?_,hbd⟩;rw [hE];rfl
  by_cases o12:o=12
  ·
   subst o12;have ea:Aj 12=2:=by simp [Aj]
   have hjL:L.length=j+2:=by omega
   have hjc:j<cap:=by omega
   have hjc1:(j:Int)<cap:=by omega
   have ix0:(0:Int)<((L.length - j:Nat):Int):=by omega
   have ix1:(1:Int)<((L.length - j:Nat):Int):=by omega
   have iz0:0<L.length - j:=by omega
   have iz1:1<L.length - j:=by omega
   have HsW:Hid ((wr.alloc (γ #[ι κ 12,ι κ mm,τ s] 135)).heap.size=wr.heap.size+1):=ω _ _;have HOE:Hid (((wr.alloc (γ #[ι κ 12,ι κ mm,τ s] 135)).alloc (γ #[] 3)).ownsRow w.heap.size 3 1 (σ (ς ⟨wr.heap.size+1,0,ν⟩) 0 0) 0 []):=by
    have q:=Xb (base:=w.heap.size) (e:=3) (size:=1) (wr.alloc (γ #[ι κ 12,ι κ mm,τ s] 135)) #[] 0 (by rw [HsW.out];omega) (by unfold maxLen;omega) rfl;rw [HsW.out] at q;exact q
   have hOW:Sk (wr.alloc (γ #[ι κ 12,ι κ mm,τ s] 135)) w.heap.size g cap L:=AH hO (AE _ _);have hbW:υ w.heap.size w (wr.alloc (γ #[ι κ 12,ι κ mm,τ s] 135)):=AA hb (AE _ _);have a0:=hOW.at (j:=j) (by omega);have a1:=hOW.at (j:=j+1) (by omega);have HX0:Hid ((L.drop j).getD 0 0=L.getD j 0):=Bj L j 0;have HX1:Hid ((L.drop j).getD 1 0=L.getD (j+1) 0):=Bj L j 1;obtain⟨x,hx⟩:∃ x,L.getD j 0=x:=⟨_,rfl⟩;rw [hx] at a0 HX0;clear hx;obtain⟨y,hy⟩:∃ y,L.getD (j+1) 0=y:=⟨_,rfl⟩;rw [hy] at a1 HX1;clear hy;clear ea hjL;by_cases hx2:x=2
   ·
    by_cases hy2:y=2
    ·
     have HT:Hid (Bk C n ⟨12,mm,s⟩ (L.drop j)=(2,0)):=by show _=_;simp only [Bk];rw [HX0.out,HX1.out,hx2,hy2];simp
     subst hx2;subst hy2;go_wp2_with (first | (at_builtin;have _h:=hb5;refine XY _ rfl _ _ _ rfl w.heap.size 3 i0 (ι κ 0) 1 8 Tryz.underlying194 HI.out hz0 hz1 hz2 rfl (by omega) (σ (ς ⟨g5,0,ν⟩) j cap5) j (Ba (L.take j)) rfl (hown5.alloc _) ⟨w5.heap.size,0,ν⟩ 1 1 [ι κ (2)] rfl rfl (XP (η w5 _)) (Bu _ rfl) (by omega) (by unfold maxLen;have:=HLE.out;omega) (by have:=HLE.out;omega) (by simp;omega) _ rfl ?_;intro g6 cap6 w6 hO6 hgr6 hat6 hlt6) | (at_builtin;refine wpList_append_own _ rfl _ _ 194 rfl w.heap.size 3 i0 (ι κ 0) 1 8 Tryz.underlying194 HI.out hz0 hz1 hz2 rfl (by omega) (σ (ς ⟨wr.heap.size+1,0,ν⟩) 0 0) 0 [] rfl HOE.out ⟨g,0,ν⟩ j cap (Ba (L.take j)) rfl (by rw [CD,Xf];omega) (Sk.news (AH hOW (AE _ _))) (CC _) (by unfold maxLen;have:=HLE.out;omega) (by have:=HLE.out;omega) (by simp;omega) ?_;intro v1 w5 hown5 hgrow5 hnil5;obtain⟨g5,cap5,rfl⟩:=Ac hown5 (λe=>by have:=hnil5.1 e;simp at this);rw [XT,Xk] at hown5;have hb5:=GM (AA hbW (AE _ (γ #[] 3))) hgrow5 (λx hx=>by have e:wr.heap.size+1=x:=XM hx;omega);have hs5:=hb5.size;clear hnil5) | (go_at_call 80;refine(BO (12) _).mono ?_;rintro e w3 ⟨rfl,rfl⟩))
     obtain⟨q1,q2⟩:=Cq hjl hO6;have hb6:=GM (hb5.alloc hb5.size _) hgr6 (λx hx=>by have e:g5=x:=XM hx;have:=(hown5.lt g5 rfl).1;omega);have q3:ck C n I (k+1)=(L.take j ++ [2],0):=by rw [HST.out,HT.out];rfl
     go_roundw
     case rel=>exact⟨k+1,g6,cap6,L.take j ++ [2],by omega,by go_num,by rw [q1],q3,q2,hb6⟩
     case measure=>simp [XX];omega
    ·
     have HT:Hid (Bk C n ⟨12,mm,s⟩ (L.drop j)=(0,4)):=by show _=_;simp only [Bk];rw [HX0.out,HX1.out];simp [hy2]
     subst hx2;have ny:(y == 2)=false:=by simpa using hy2
     go_wp2_with ((go_at_call 80;refine(BO (12) _).mono ?_;rintro e w3 ⟨rfl,rfl⟩))
     have hE:=HFL.out 4 (by decide) (by rw [HT.out]);refine XL (Xg rfl _ _ _) rfl ⟨?_,hbW⟩;rw [hE];rfl
   ·
    have HT:Hid (Bk C n ⟨12,mm,s⟩ (L.drop j)=(0,4)):=by show _=_;simp only [Bk];rw [HX0.out,HX1.out];simp [hx2]
    have nx:(x == 2)=false:=by simpa using hx2
    go_wp2_with ((go_at_call 80;refine(BO (12) _).mono ?_;rintro e w3 ⟨rfl,rfl⟩))
    have hE:=HFL.out 4 (by decide) (by rw [HT.out]);refine XL (Xg rfl _ _ _) rfl ⟨?_,hbW⟩;rw [hE];rfl
  by_cases o13:o=13
  ·
   subst o13;have ea:Aj 13=1:=by simp [Aj]
   have hjL:L.length=j+1:=by omega
   have hjc:j<cap:=by omega
   have hjc1:(j:Int)<cap:=by omega
   have ix0:(0:Int)<((L.length - j:Nat):Int):=by omega
   have iz0:0<L.length - j:=by omega
   have HsW:Hid ((wr.alloc (γ #[ι κ 13,ι κ mm,τ s] 135)).heap.size=wr.heap.size+1):=ω _ _;have HOE:Hid (((wr.alloc (γ #[ι κ 13,ι κ mm,τ s] 135)).alloc (γ #[] 3)).ownsRow w.heap.size 3 1 (σ (ς ⟨wr.heap.size+1,0,ν⟩) 0 0) 0 []):=by
    have q:=Xb (base:=w.heap.size) (e:=3) (size:=1) (wr.alloc (γ #[ι κ 13,ι κ mm,τ s] 135)) #[] 0 (by rw [HsW.out];omega) (by unfold maxLen;omega) rfl;rw [HsW.out] at q;exact q
   have hOW:Sk (wr.alloc (γ #[ι κ 13,ι κ mm,τ s] 135)) w.heap.size g cap L:=AH hO (AE _ _);have hbW:υ w.heap.size w (wr.alloc (γ #[ι κ 13,ι κ mm,τ s] 135)):=AA hb (AE _ _);have a0:=hOW.at (j:=j) (by omega);have HX0:Hid ((L.drop j).getD 0 0=L.getD j 0):=Bj L j 0;obtain⟨x,hx⟩:∃ x,L.getD j 0=x:=⟨_,rfl⟩;rw [hx] at a0 HX0;clear hx;clear ea hjL;by_cases hx2:x=2
   ·
    have HT:Hid (Bk C n ⟨13,mm,s⟩ (L.drop j)=(1,0)):=by show _=_;simp only [Bk];rw [HX0.out,hx2];simp
    subst hx2;go_wp2_with (first | (at_builtin;have _h:=hb5;refine XY _ rfl _ _ _ rfl w.heap.size 3 i0 (ι κ 0) 1 8 Tryz.underlying194 HI.out hz0 hz1 hz2 rfl (by omega) (σ (ς ⟨g5,0,ν⟩) j cap5) j (Ba (L.take j)) rfl (hown5.alloc _) ⟨w5.heap.size,0,ν⟩ 1 1 [ι κ (1)] rfl rfl (XP (η w5 _)) (Bu _ rfl) (by omega) (by unfold maxLen;have:=HLE.out;omega) (by have:=HLE.out;omega) (by simp;omega) _ rfl ?_;intro g6 cap6 w6 hO6 hgr6 hat6 hlt6) | (at_builtin;refine wpList_append_own _ rfl _ _ 194 rfl w.heap.size 3 i0 (ι κ 0) 1 8 Tryz.underlying194 HI.out hz0 hz1 hz2 rfl (by omega) (σ (ς ⟨wr.heap.size+1,0,ν⟩) 0 0) 0 [] rfl HOE.out ⟨g,0,ν⟩ j cap (Ba (L.take j)) rfl (by rw [CD,Xf];omega) (Sk.news (AH hOW (AE _ _))) (CC _) (by unfold maxLen;have:=HLE.out;omega) (by have:=HLE.out;omega) (by simp;omega) ?_;intro v1 w5 hown5 hgrow5 hnil5;obtain⟨g5,cap5,rfl⟩:=Ac hown5 (λe=>by have:=hnil5.1 e;simp at this);rw [XT,Xk] at hown5;have hb5:=GM (AA hbW (AE _ (γ #[] 3))) hgrow5 (λx hx=>by have e:wr.heap.size+1=x:=XM hx;omega);have hs5:=hb5.size;clear hnil5) | (go_at_call 80;refine(BO (13) _).mono ?_;rintro e w3 ⟨rfl,rfl⟩))
    obtain⟨q1,q2⟩:=Cq hjl hO6;have hb6:=GM (hb5.alloc hb5.size _) hgr6 (λx hx=>by have e:g5=x:=XM hx;have:=(hown5.lt g5 rfl).1;omega);have q3:ck C n I (k+1)=(L.take j ++ [1],0):=by rw [HST.out,HT.out];rfl
    go_roundw
    case rel=>exact⟨k+1,g6,cap6,L.take j ++ [1],by omega,by go_num,by rw [q1],q3,q2,hb6⟩
    case measure=>simp [XX];omega
   ·
    have HT:Hid (Bk C n ⟨13,mm,s⟩ (L.drop j)=(0,4)):=by show _=_;simp only [Bk];rw [HX0.out];simp [hx2]
    have nx:(x == 2)=false:=by simpa using hx2
    go_wp2_with ((go_at_call 80;refine(BO (13) _).mono ?_;rintro e w3 ⟨rfl,rfl⟩))
    have hE:=HFL.out 4 (by decide) (by rw [HT.out]);refine XL (Xg rfl _ _ _) rfl ⟨?_,hbW⟩;rw [hE];rfl
  obtain⟨wo,hwo⟩:∃ v,v=wr:=⟨_,rfl⟩;subst hwo;have HsW:Hid ((wo.alloc (γ #[ι κ o,ι κ mm,τ s] 135)).heap.size=wo.heap.size+1):=ω _ _;have HOE:Hid (((wo.alloc (γ #[ι κ o,ι κ mm,τ s] 135)).alloc (γ #[] 3)).ownsRow w.heap.size 3 1 (σ (ς ⟨wo.heap.size+1,0,ν⟩) 0 0) 0 []):=by
   have q:=Xb (base:=w.heap.size) (e:=3) (size:=1) (wo.alloc (γ #[ι κ o,ι κ mm,τ s] 135)) #[] 0 (by rw [HsW.out];omega) (by unfold maxLen;omega) rfl;rw [HsW.out] at q;exact q
  have hOW:Sk (wo.alloc (γ #[ι κ o,ι κ mm,τ s] 135)) w.heap.size g cap L:=AH hO (AE _ _);have hbW:υ w.heap.size w (wo.alloc (γ #[ι κ o,ι κ mm,τ s] 135)):=AA hb (AE _ _);have HTY:Hid (Bk C n ⟨o,mm,s⟩ (L.drop j)=if (L.drop j).all (λx=>x == 1)=true then (1,0) else (0,4)):=by
   show _=_
   simp only [Bk]
   rw [if_neg o2,if_neg o3,if_neg (by omega),if_neg o12,if_neg o13]
  have n2:(o == 2)=false:=by simpa using o2
  have n3:(o == 3)=false:=by simpa using o3
  have n7:(o == 7)=false:=by simpa using o7
  have n8:(o == 8)=false:=by simpa using o8
  have n12:(o == 12)=false:=by simpa using o12
  have n13:(o == 13)=false:=by simpa using o13
  clear o2 o3 o7 o8 o12 o13;by_cases hcj:j<cap
  ·
   have hcj1:(j:Int)<cap:=by omega
   go_wp2_with (go_at_call 80;refine(BO (o) _).mono ?_;rintro e w3 ⟨rfl,rfl⟩)
   go_loopw [12,15,36] (λb _ i wx=>∃ q:Nat,q<=L.length - j/\i=ι κ q/\b=β (((L.drop j).take q).all (λx=>x == 1))/\wx=(wo.alloc (γ #[ι κ o,ι κ mm,τ s] 135))) (λ_ _ i _=>(L.length - j) - (XX i).toNat)
   case atStart=>exact⟨0,XZ _,rfl,rfl,rfl⟩
   case round=>
    obtain⟨q,hq,rfl,rfl,rfl⟩:=hrel;by_cases hql:q<L.length - j
    ·
     have a0:=hOW.at (j:=j+q) (by omega);have HNX:Hid (((L.drop j).take (q+1)).all (λx=>x == 1)=(((L.drop j).take q).all (λx=>x == 1) && (L.getD (j+q) 0 == 1))):=N3 L j q (by omega);obtain⟨x,hx⟩:∃ x,L.getD (j+q) 0=x:=⟨_,rfl⟩;rw [hx] at a0 HNX;clear hx;have iq:(q:Int)<((L.length - j:Nat):Int):=by omega
     obtain⟨bb,hbb⟩:∃ bb,((L.drop j).take q).all (λx=>x == 1)=bb:=⟨_,rfl⟩;rw [hbb] at HNX ⊢;clear hbb;cases bb
     ·
      go_wp2;go_roundw
      case rel=>exact⟨q+1,by omega,by go_num,by rw [HNX.out];rfl,trivial⟩
      case measure=>simp [XX];omega
     ·
      go_wp2;go_roundw
      case rel=>exact⟨q+1,by omega,by go_num,by rw [HNX.out];simp,trivial⟩
      case measure=>simp [XX];omega
    ·
     have HAL:Hid (((L.drop j).take q).all (λx=>x == 1)=(L.drop j).all (λx=>x == 1)):=by show _=_;rw [List.take_of_length_le (by simp;omega)]
     obtain⟨bb,hbb⟩:∃ bb,(L.drop j).all (λx=>x == 1)=bb:=⟨_,rfl⟩;rw [HAL.out];rw [hbb] at HTY ⊢;clear hbb HAL;have iq:¬(q:Int)<((L.length - j:Nat):Int):=by omega
     cases bb
     ·
      have HT:Hid (Bk C n ⟨o,mm,s⟩ (L.drop j)=(0,4)):=by show _=_;rw [HTY.out];rfl
      go_wp2;have hE:=HFL.out 4 (by decide) (by rw [HT.out]);refine XL (Xg rfl _ _ _) rfl ⟨?_,hbW⟩;rw [hE];rfl
     ·
      have HT:Hid (Bk C n ⟨o,mm,s⟩ (L.drop j)=(1,0)):=by show _=_;rw [HTY.out];rfl
      go_wp2_with (first | (at_builtin;have _h:=hb5;refine XY _ rfl _ _ _ rfl w.heap.size 3 i0 (ι κ 0) 1 8 Tryz.underlying194 HI.out hz0 hz1 hz2 rfl (by omega) (σ (ς ⟨g5,0,ν⟩) j cap5) j (Ba (L.take j)) rfl (hown5.alloc _) ⟨w5.heap.size,0,ν⟩ 1 1 [ι κ (1)] rfl rfl (XP (η w5 _)) (Bu _ rfl) (by omega) (by unfold maxLen;have:=HLE.out;omega) (by have:=HLE.out;omega) (by simp;omega) _ rfl ?_;intro g6 cap6 w6 hO6 hgr6 hat6 hlt6) | (at_builtin;refine wpList_append_own _ rfl _ _ 194 rfl w.heap.size 3 i0 (ι κ 0) 1 8 Tryz.underlying194 HI.out hz0 hz1 hz2 rfl (by omega) (σ (ς ⟨wo.heap.size+1,0,ν⟩) 0 0) 0 [] rfl HOE.out ⟨g,0,ν⟩ j cap (Ba (L.take j)) rfl (by rw [CD,Xf];omega) (Sk.news (AH hOW (AE _ _))) (CC _) (by unfold maxLen;have:=HLE.out;omega) (by have:=HLE.out;omega) (by simp;omega) ?_;intro v1 w5 hown5 hgrow5 hnil5;obtain⟨g5,cap5,rfl⟩:=Ac hown5 (λe=>by have:=hnil5.1 e;simp at this);rw [XT,Xk] at hown5;have hb5:=GM (AA hbW (AE _ (γ #[] 3))) hgrow5 (λx hx=>by have e:wo.heap.size+1=x:=XM hx;omega);have hs5:=hb5.size;clear hnil5))
      obtain⟨q1,q2⟩:=Cq hjl hO6;have hb6:=GM (hb5.alloc hb5.size _) hgr6 (λx hx=>by have e:g5=x:=XM hx;have:=(hown5.lt g5 rfl).1;omega);have q3:ck C n I (k+1)=(L.take j ++ [1],0):=by rw [HST.out,HT.out];rfl
      go_roundw
      case rel=>exact⟨k+1,g6,cap6,L.take j ++ [1],by omega,by go_num,by rw [q1],q3,q2,hb6⟩
      case measure=>simp [XX];omega
  ·
   obtain rfl:j=cap:=by omega
   go_wp2_with (go_at_call 80;refine(BO (o) _).mono ?_;rintro e w3 ⟨rfl,rfl⟩)
   go_loopw [12,15,36] (λb _ i wx=>∃ q:Nat,q<=L.length - j/\i=ι κ q/\b=β (((L.drop j).take q).all (λx=>x == 1))/\wx=(wo.alloc (γ #[ι κ o,ι κ mm,τ s] 135))) (λ_ _ i _=>(L.length - j) - (XX i).toNat)
   case atStart=>exact⟨0,XZ _,rfl,rfl,rfl⟩
   case round=>
    obtain⟨q,hq,rfl,rfl,rfl⟩:=hrel;by_cases hql:q<L.length - j
    ·
     exfalso
     omega
    ·
     have HAL:Hid (((L.drop j).take q).all (λx=>x == 1)=(L.drop j).all (λx=>x == 1)):=by show _=_;rw [List.take_of_length_le (by simp;omega)]
     obtain⟨bb,hbb⟩:∃ bb,(L.drop j).all (λx=>x == 1)=bb:=⟨_,rfl⟩;rw [HAL.out];rw [hbb] at HTY ⊢;clear hbb HAL;have iq:¬(q:Int)<((L.length - j:Nat):Int):=by omega
     cases bb
     ·
      have HT:Hid (Bk C n ⟨o,mm,s⟩ (L.drop j)=(0,4)):=by show _=_;rw [HTY.out];rfl
      go_wp2;have hE:=HFL.out 4 (by decide) (by rw [HT.out]);refine XL (Xg rfl _ _ _) rfl ⟨?_,hbW⟩;rw [hE];rfl
     ·
      have HT:Hid (Bk C n ⟨o,mm,s⟩ (L.drop j)=(1,0)):=by show _=_;rw [HTY.out];rfl
      go_wp2_with (first | (at_builtin;have _h:=hb5;refine XY _ rfl _ _ _ rfl w.heap.size 3 i0 (ι κ 0) 1 8 Tryz.underlying194 HI.out hz0 hz1 hz2 rfl (by omega) (σ (ς ⟨g5,0,ν⟩) j cap5) j (Ba (L.take j)) rfl (hown5.alloc _) ⟨w5.heap.size,0,ν⟩ 1 1 [ι κ (1)] rfl rfl (XP (η w5 _)) (Bu _ rfl) (by omega) (by unfold maxLen;have:=HLE.out;omega) (by have:=HLE.out;omega) (by simp;omega) _ rfl ?_;intro g6 cap6 w6 hO6 hgr6 hat6 hlt6) | (at_builtin;refine wpList_append_own _ rfl _ _ 194 rfl w.heap.size 3 i0 (ι κ 0) 1 8 Tryz.underlying194 HI.out hz0 hz1 hz2 rfl (by omega) (σ (ς ⟨wo.heap.size+1,0,ν⟩) 0 0) 0 [] rfl HOE.out ⟨g,0,ν⟩ j j (Ba (L.take j)) rfl (by rw [CD,Xf];omega) (Sk.news (AH hOW (AE _ _))) (CC _) (by unfold maxLen;have:=HLE.out;omega) (by have:=HLE.out;omega) (by simp;omega) ?_;intro v1 w5 hown5 hgrow5 hnil5;obtain⟨g5,cap5,rfl⟩:=Ac hown5 (λe=>by have:=hnil5.1 e;simp at this);rw [XT,Xk] at hown5;have hb5:=GM (AA hbW (AE _ (γ #[] 3))) hgrow5 (λx hx=>by have e:wo.heap.size+1=x:=XM hx;omega);have hs5:=hb5.size;clear hnil5))
      obtain⟨q1,q2⟩:=Cq hjl hO6;have hb6:=GM (hb5.alloc hb5.size _) hgr6 (λx hx=>by have e:g5=x:=XM hx;have:=(hown5.lt g5 rfl).1;omega);have q3:ck C n I (k+1)=(L.take j ++ [1],0):=by rw [HST.out,HT.out];rfl
      go_roundw
      case rel=>exact⟨k+1,g6,cap6,L.take j ++ [1],by omega,by go_num,by rw [q1],q3,q2,hb6⟩
      case measure=>simp [XX];omega
