import Derived.Test.YtoeencbghldmdaaGreatDoorUc
open Bool renaming and_eq_true → VO
open Go renaming Calls → VK, Value → VN, World → ο, bodyPost_ret → VE, heap_alloc_new → η, results_tmp2 → VZ, wpAnyH_done → VP, wpList_append_lies → VR, wp_region_held_drew → VH
open Go.Ending renaming returned → ρ
open Go.IntKind renaming i64 → κ
open Go.Obj renaming cells → γ
open Go.Proofs.Tryz renaming prog → μ
open Go.RowKit renaming Below → υ, intOf → VQ
open Go.RowKit.Below renaming refl → VT
open Go.Value renaming bool → β, int → ι, slice → σ, string → τ, tuple → θ
open Go.World renaming news_of_block → VI, ownsRow_made → VU, size_alloc → ω
open List renaming length_take → VY, nil_append → Vd, length_append → VJ
open Nat renaming le_refl → VD, le_trans → VX, zero_add → VM, zero_le → VS
open Option renaming none → ν, some → ς
open Option.some renaming inj → VF
namespace Go.Proofs.YtoeencbghldmdaaGreatDoor
open Go.RowKit Go.Maps Go.WideMaps
set_option maxRecDepth 20000
set_option maxHeartbeats 16000000
theorem Tryz.infoInt:(Tryz.prog.info? 3).map (λi=>(i.zero,i.size,i.bytes))=ς (ς (ι κ 0),1,8):=by kernel_rfl
theorem CS(L:List Int):(By L).length=L.length:=by simp [By]
theorem CR(L:List Int):∀ u∈By L,u.oneCell'=true:=by
 intro u hu;simp only [By,List.mem_map] at hu
 obtain⟨x,-,rfl⟩:=hu;rfl
theorem N9{L:List Int}{j:Nat}(h:j<L.length):(By L)[j]?=ς (ι κ (L.getD j 0)):=by
 simp [By,h]
theorem GT{I:Nat->Itm}{k:Nat}:∀ {m:Nat} {x:Int},ex I m=ς x->k<m->∃ d,ex I k=ς d/\Aq (I k).o (I k).m (I k).s=true/\AW (I k).o<=d
 | 0,x,h,hk=>by omega
 | m+1,x,h,hk=>by
  rw [ex] at h;split at h
  · cases h
  ·
   rename_i d hd
   by_cases e:k=m
   ·
    subst e;split at h
    ·
     rename_i hc
     exact⟨d,hd,hc.1,hc.2⟩
    · cases h
   · exact GT hd (by omega)
def Sk(w:ο)(base g cap:Nat)(L:List Int):Prop:=w.ownsRow base 3 1 (σ (ς ⟨g,0,ν⟩) L.length cap) L.length (By L)
theorem Sk.at{w:ο}{base g cap:Nat}{L:List Int}(h:Sk w base g cap L){j:Nat}(hj:j<L.length):w.cell? ⟨g,j,ν⟩=ς (ι κ (L.getD j 0)):=by
 exact(h.cellAt j (by rw [Nat.mul_one];exact hj)).trans (N9 hj)
theorem Ab{w:ο}{base e size n:Nat}{v:VN}{xs:List VN}(h:w.ownsRow base e size v n xs)(hv:v≠σ ν 0 0):∃ g cap,v=σ (ς ⟨g,0,ν⟩) n cap:=by
 rcases h.2 with ⟨e,-⟩ | ⟨g,cap,cur,e,-⟩
 · exact absurd e hv
 · exact⟨g,cap,e⟩
theorem B9(L:List Int)(j q:Nat):(L.drop j).getD q 0=L.getD (j+q) 0:=by simp
theorem Sk.news{w:ο}{base g cap:Nat}{L:List Int}(h:Sk w base g cap L){j:Nat}:∀ i u,(By (L.take j))[i]?=ς u->w.cell? ((⟨g,0,ν⟩:Addr).add i)=ς u:=λi u hu=>by
 refine h.cells (g:=g) rfl i u ?_;unfold By at hu ⊢;rw [List.map_take,List.getElem?_take] at hu;split at hu
 · exact hu
 · cases hu
theorem C6{w4:ο}{base g4 cap4 j:Nat}{L:List Int}{r:Int}(hjl:j<=L.length)(h:w4.ownsRow base 3 1 (σ (ς ⟨g4,0,ν⟩) (j+1) cap4) (j+1) (By (L.take j) ++ [ι κ r])):(L.take j ++ [r]).length=j+1/\Sk w4 base g4 cap4 (L.take j ++ [r]):=by
 have e1:(L.take j ++ [r]).length=j+1:=by simp;omega
 refine⟨e1,?_⟩;unfold Sk;rw [e1,show By (L.take j ++ [r])=By (L.take j) ++ [ι κ r] from by simp [By]]
 exact h
theorem Jq{w:ο}{base g cap:Nat}{L:List Int}(h:Sk w base g cap L):L.length<=cap:=by
 rcases h.2 with ⟨e,-⟩ | ⟨g',cap',cur,e,-,-,h1,-⟩
 · simp at e
 ·
  simp only [Value.slice.injEq,Option.some.injEq,Addr.mk.injEq,and_true,true_and] at e
  omega
theorem Hw{w a b:ο}{r:Option Nat}(h:υ w.heap.size w a)(g:a.grownBy b r)(hB:∀ x,r=ς x->w.heap.size<=x):υ w.heap.size w b:=
 ⟨g.os.trans h.os,g.tape.trans h.tape,g.output.trans h.output,VX h.size g.size,λk hk=>(g.block k (Nat.lt_of_lt_of_le hk h.size) (λe=>by have:=hB k e.symm;omega)).trans (h.block k hk)⟩
theorem Du{o m:Int}{s:ByteArray}(h:Aq o m s=true):1<=o/\o<=13:=by
 simp only [Aq,Bool.or_eq_true,VO,decide_eq_true_eq] at h
 rcases h with ((⟨h,-⟩ | ⟨h,-⟩) | ⟨h,-⟩) | ⟨h,-⟩ <;> first | omega | (simp [Bn] at h;omega) | (simp at h;omega) | (revert h;simp;omega)
theorem O9(L:List Int)(j q:Nat)(h:j+q<L.length):((L.drop j).take (q+1)).all (λx=>x == 1)=(((L.drop j).take q).all (λx=>x == 1) && (L.getD (j+q) 0 == 1)):=by
 rw [List.take_add_one,List.all_append];congr 1
 rw [List.getElem?_drop];simp [h]
theorem CU(w:ο):υ w.heap.size w w.drew:=BO (VT _ _)
theorem Ku(ac:Option Addr)(n cc:Nat)(C:Nat->Clm)(a:Option Addr)(m c:Nat)(I:Nat->Itm)(w:ο)(hC:CL w ac n C)(hI:IL w a m I)(hn:n<=1048576)(hm:m<=100)(hx:ex I m=ς 1) :
 VK μ 25 #[σ ac n cc,σ a m c] w λe w'=>e=ρ (θ #[ι κ (DA C n I m).1,ι κ (DA C n I m).2])/\υ w.heap.size w w':=by
 have HX:Hid (ex I m=ς 1):=hx;clear hx;obtain⟨i0,hi,hz0,hz1,hz2⟩:=info_parts Tryz.infoInt;have HI:Hid (Tryz.prog.info? 3=ς i0):=hi;clear hi;have hb0:=AD w (γ #[] 3);have hO0:Sk (w.alloc (γ #[] 3)) w.heap.size w.heap.size 0 []:=VU w #[] 0 (VD _) (by unfold maxLen;omega) rfl;go_enter Tryz.func25,Tryz.ntmps25
 go_wp2;go_loopw [6,8,9,10,11,12,13,15,19] (λv _ _ _ _ _ _ _ i wr=>∃ (k g cap:Nat) (L:List Int),k<=m/\i=ι κ k/\v=σ (ς ⟨g,0,ν⟩) L.length cap/\ck C n I k=(L,0)/\Sk wr w.heap.size g cap L/\υ w.heap.size w wr) (λ_ _ _ _ _ _ _ _ i _=>m - (VQ i).toNat)
 case atStart=>exact⟨0,w.heap.size,0,[],by omega,rfl,rfl,rfl,hO0,hb0⟩
 case round=>
  obtain⟨k,g,cap,L,hk,rfl,rfl,hck,hO,hb⟩:=hrel;have HCK:Hid (ck C n I k=(L,0)):=hck;clear hck;by_cases hlt:k<m
  rotate_left
  ·
   obtain rfl:k=m:=by omega
   have HL:L.length=1:=by
    have:=Hm (C:=C) (n:=n) HX.out (by rw [HCK.out]);rw [HCK.out] at this;simp only at this
    omega
   have c0:=hO.at (j:=0) (by omega);have h1:(0:Int)<L.length:=by omega
   obtain⟨x0,hx0⟩:∃ x,L.getD 0 0=x:=⟨_,rfl⟩;have e:Hid (DA C n I k=(x0,0)):=by show _=_;unfold DA;rw [HCK.out,←hx0];rfl
   rw [hx0] at c0;clear hx0;go_wp2;refine VE (VZ rfl _ _ _) rfl ⟨?_,hb⟩;rw [e.out];rfl
  have hsw:=hb.size;obtain⟨d,hd,hok,had⟩:=GT HX.out hlt;have hlen:((L.length:Nat):Int)=d:=by
   have:=Hm (C:=C) (n:=n) hd (by rw [HCK.out]);rwa [HCK.out] at this
  have hll:=Hg hd;have hst:ck C n I (k+1)=if (B7 C n (I k) (L.drop (L.length - DZ (I k).o))).2≠0 then (L,(B7 C n (I k) (L.drop (L.length - DZ (I k).o))).2) else (L.take (L.length - DZ (I k).o) ++ [(B7 C n (I k) (L.drop (L.length - DZ (I k).o))).1],0):=by
   rw [ck,HCK.out];simp only [MS]
   rw [if_neg (by simp)];rfl
  obtain⟨b,off,rfl,c0,c1,c2,hs⟩:=hI.later hb k hlt;obtain⟨o,mm,s,hIk⟩:∃ o mm s,I k=⟨o,mm,s⟩:=⟨_,_,_,rfl⟩;rw [hIk] at hok had hst c0 c1 c2 hs;simp only at hok had hst c0 c1 c2 hs
  have hop:=Du hok;have ha:=FP o;have hal:=CV o;obtain⟨j,hj⟩:∃ j:Nat,L.length - DZ o=j:=⟨_,rfl⟩;rw [hj] at hst;have hj1:((L.length:Nat):Int) - AW o=(j:Nat):=by omega
  have hjl:j<=L.length:=by omega
  have hjj:(j:Int)<=L.length:=by omega
  have HST:Hid (ck C n I (k+1)=if (B7 C n ⟨o,mm,s⟩ (L.drop j)).2≠0 then (L,(B7 C n ⟨o,mm,s⟩ (L.drop j)).2) else (L.take j ++ [(B7 C n ⟨o,mm,s⟩ (L.drop j)).1],0)):=hst
  have HFL:Hid (∀ cd:Int,cd≠0->(B7 C n ⟨o,mm,s⟩ (L.drop j)).2=cd->DA C n I m=(0,cd)):=λcd h0 h1=>by
   have e1:ck C n I (k+1)=(L,cd):=by rw [HST.out,h1,if_pos h0]
   have e2:=E6 (C:=C) (n:=n) (I:=I) (k:=k+1) (by rw [e1];exact h0) m hlt;unfold DA;rw [e2,e1,if_pos h0]
  have hj100:j<=100:=by omega
  have hcp:=Jq hO;have HLE:Hid (((L.length:Nat):Int)=d/\L.length - DZ o=j/\L.length<=100):=⟨hlen,hj,by omega⟩;clear hst hIk hj ha had hd hok hlen;by_cases o2:o=2
  ·
   subst o2;have HT:Hid (B7 C n ⟨2,mm,s⟩ (L.drop j)=(2,0)):=by show _=_;simp [B7]
   have HsW:Hid ((wr.alloc (γ #[ι κ 2,ι κ mm,τ s] 42)).heap.size=wr.heap.size+1):=ω _ _;have HOE:Hid (((wr.alloc (γ #[ι κ 2,ι κ mm,τ s] 42)).alloc (γ #[] 3)).ownsRow w.heap.size 3 1 (σ (ς ⟨wr.heap.size+1,0,ν⟩) 0 0) 0 []):=by
    have q:=VU (base:=w.heap.size) (e:=3) (size:=1) (wr.alloc (γ #[ι κ 2,ι κ mm,τ s] 42)) #[] 0 (by rw [HsW.out];omega) (by unfold maxLen;omega) rfl;rw [HsW.out] at q;exact q
   have hOW:Sk (wr.alloc (γ #[ι κ 2,ι κ mm,τ s] 42)) w.heap.size g cap L:=AF hO (AD _ _);have hbW:υ w.heap.size w (wr.alloc (γ #[ι κ 2,ι κ mm,τ s] 42)):=AA hb (AD _ _);by_cases hcj:j<cap
   ·
    have hcj1:(j:Int)<cap:=by omega
    go_wp2_with (first | (at_builtin;have _h:=hb5;refine VR _ rfl _ _ _ rfl w.heap.size 3 i0 (ι κ 0) 1 8 Tryz.underlying99 HI.out hz0 hz1 hz2 rfl (by omega) (σ (ς ⟨g5,0,ν⟩) j cap5) j (By (L.take j)) rfl (hown5.alloc _) ⟨w5.heap.size,0,ν⟩ 1 1 [ι κ (2)] rfl rfl (VI (η w5 _)) (Bt _ rfl) (by omega) (by unfold maxLen;have:=HLE.out;omega) (by have:=HLE.out;omega) (by simp;omega) _ rfl ?_;intro g6 cap6 w6 hO6 hgr6 hat6 hlt6) | (at_builtin;refine wpList_append_own _ rfl _ _ 99 rfl w.heap.size 3 i0 (ι κ 0) 1 8 Tryz.underlying99 HI.out hz0 hz1 hz2 rfl (by omega) (σ (ς ⟨wr.heap.size+1,0,ν⟩) 0 0) 0 [] rfl HOE.out ⟨g,0,ν⟩ j cap (By (L.take j)) rfl (by rw [CS,VY];omega) (Sk.news (AF hOW (AD _ _))) (CR _) (by unfold maxLen;have:=HLE.out;omega) (by have:=HLE.out;omega) (by simp;omega) ?_;intro v1 w5 hown5 hgrow5 hnil5;obtain⟨g5,cap5,rfl⟩:=Ab hown5 (λe=>by have:=hnil5.1 e;simp at this);rw [VM,Vd] at hown5;have hb5:=Hw (AA hbW (AD _ (γ #[] 3))) hgrow5 (λx hx=>by have e:wr.heap.size+1=x:=VF hx;omega);have hs5:=hb5.size;clear hnil5) | (go_at_call 56;refine(Ba (2) _).mono ?_;rintro e w3 ⟨rfl,rfl⟩))
    obtain⟨q1,q2⟩:=C6 hjl hO6;have hb6:=Hw (hb5.alloc hb5.size _) hgr6 (λx hx=>by have e:g5=x:=VF hx;have:=(hown5.lt g5 rfl).1;omega);have q3:ck C n I (k+1)=(L.take j ++ [2],0):=by rw [HST.out,HT.out];rfl
    go_roundw
    case rel=>exact⟨k+1,g6,cap6,L.take j ++ [2],by omega,by go_num,by rw [q1],q3,q2,hb6⟩
    case measure=>simp [VQ];omega
   ·
    obtain rfl:j=cap:=by omega
    go_wp2_with (first | (at_builtin;have _h:=hb5;refine VR _ rfl _ _ _ rfl w.heap.size 3 i0 (ι κ 0) 1 8 Tryz.underlying99 HI.out hz0 hz1 hz2 rfl (by omega) (σ (ς ⟨g5,0,ν⟩) j cap5) j (By (L.take j)) rfl (hown5.alloc _) ⟨w5.heap.size,0,ν⟩ 1 1 [ι κ (2)] rfl rfl (VI (η w5 _)) (Bt _ rfl) (by omega) (by unfold maxLen;have:=HLE.out;omega) (by have:=HLE.out;omega) (by simp;omega) _ rfl ?_;intro g6 cap6 w6 hO6 hgr6 hat6 hlt6) | (at_builtin;refine wpList_append_own _ rfl _ _ 99 rfl w.heap.size 3 i0 (ι κ 0) 1 8 Tryz.underlying99 HI.out hz0 hz1 hz2 rfl (by omega) (σ (ς ⟨wr.heap.size+1,0,ν⟩) 0 0) 0 [] rfl HOE.out ⟨g,0,ν⟩ j j (By (L.take j)) rfl (by rw [CS,VY];omega) (Sk.news (AF hOW (AD _ _))) (CR _) (by unfold maxLen;have:=HLE.out;omega) (by have:=HLE.out;omega) (by simp;omega) ?_;intro v1 w5 hown5 hgrow5 hnil5;obtain⟨g5,cap5,rfl⟩:=Ab hown5 (λe=>by have:=hnil5.1 e;simp at this);rw [VM,Vd] at hown5;have hb5:=Hw (AA hbW (AD _ (γ #[] 3))) hgrow5 (λx hx=>by have e:wr.heap.size+1=x:=VF hx;omega);have hs5:=hb5.size;clear hnil5) | (go_at_call 56;refine(Ba (2) _).mono ?_;rintro e w3 ⟨rfl,rfl⟩))
    obtain⟨q1,q2⟩:=C6 hjl hO6;have hb6:=Hw (hb5.alloc hb5.size _) hgr6 (λx hx=>by have e:g5=x:=VF hx;have:=(hown5.lt g5 rfl).1;omega);have q3:ck C n I (k+1)=(L.take j ++ [2],0):=by rw [HST.out,HT.out];rfl
    go_roundw
    case rel=>exact⟨k+1,g6,cap6,L.take j ++ [2],by omega,by go_num,by rw [q1],q3,q2,hb6⟩
    case measure=>simp [VQ];omega
  by_cases o3:o=3
  ·
   subst o3;have HsW:Hid ((wr.alloc (γ #[ι κ 3,ι κ mm,τ s] 42)).heap.size=wr.heap.size+1):=ω _ _;have HOE:Hid (((wr.alloc (γ #[ι κ 3,ι κ mm,τ s] 42)).alloc (γ #[] 3)).ownsRow w.heap.size 3 1 (σ (ς ⟨wr.heap.size+1,0,ν⟩) 0 0) 0 []):=by
    have q:=VU (base:=w.heap.size) (e:=3) (size:=1) (wr.alloc (γ #[ι κ 3,ι κ mm,τ s] 42)) #[] 0 (by rw [HsW.out];omega) (by unfold maxLen;omega) rfl;rw [HsW.out] at q;exact q
   have hOW:Sk (wr.alloc (γ #[ι κ 3,ι κ mm,τ s] 42)) w.heap.size g cap L:=AF hO (AD _ _);have hbW:υ w.heap.size w (wr.alloc (γ #[ι κ 3,ι κ mm,τ s] 42)):=AA hb (AD _ _);cases hcol:BF C s n with
   | none=>
    have HT:Hid (B7 C n ⟨3,mm,s⟩ (L.drop j)=(0,3)):=by show _=_;simp [B7,hcol]
    have HZ:JR (BF C s n)=-1:=by rw [hcol];rfl
    clear hcol;by_cases hcj:j<cap
    ·
     have hcj1:(j:Int)<cap:=by omega
     go_wp2_with (first | (go_at_call 51;refine(FG ac n cc C s _ (hC.later hbW) hn).mono ?_;rintro e w4 ⟨rfl,hb4⟩;have B4:=AA hbW hb4;have O4:=AF hOW hb4;have HOE4:Hid ((w4.alloc (γ #[] 3)).ownsRow w.heap.size 3 1 (σ (ς ⟨w4.heap.size,0,ν⟩) 0 0) 0 []):=VU w4 #[] 0 (by have:=B4.size;omega) (by unfold maxLen;omega) rfl;have hs4:=B4.size;rw [HZ]) | (go_at_call 56;refine(Ba (3) _).mono ?_;rintro e w3 ⟨rfl,rfl⟩))
     have hE:=HFL.out 3 (by decide) (by rw [HT.out]);refine VE (VZ rfl _ _ _) rfl ⟨?_,B4⟩;rw [hE];rfl
    ·
     obtain rfl:j=cap:=by omega
     go_wp2_with (first | (go_at_call 51;refine(FG ac n cc C s _ (hC.later hbW) hn).mono ?_;rintro e w4 ⟨rfl,hb4⟩;have B4:=AA hbW hb4;have O4:=AF hOW hb4;have HOE4:Hid ((w4.alloc (γ #[] 3)).ownsRow w.heap.size 3 1 (σ (ς ⟨w4.heap.size,0,ν⟩) 0 0) 0 []):=VU w4 #[] 0 (by have:=B4.size;omega) (by unfold maxLen;omega) rfl;have hs4:=B4.size;rw [HZ]) | (go_at_call 56;refine(Ba (3) _).mono ?_;rintro e w3 ⟨rfl,rfl⟩))
     have hE:=HFL.out 3 (by decide) (by rw [HT.out]);refine VE (VZ rfl _ _ _) rfl ⟨?_,B4⟩;rw [hE];rfl
   | some q=>
    have HT:Hid (B7 C n ⟨3,mm,s⟩ (L.drop j)=((C q).t,0)):=by show _=_;simp [B7,hcol]
    have HZ:JR (BF C s n)=(q:Int):=by rw [hcol];rfl
    have hq:=(Bz hcol).1;have hq0:(0:Int)<=(q:Int):=by omega
    have hq1:(q:Int)<n:=by omega
    clear hcol;obtain⟨b2,off2,rfl,-⟩:=hC q hq;by_cases hcj:j<cap
    ·
     have hcj1:(j:Int)<cap:=by omega
     go_wp2_with (first | (at_builtin;have _h:=hb5;refine VR _ rfl _ _ _ rfl w.heap.size 3 i0 (ι κ 0) 1 8 Tryz.underlying99 HI.out hz0 hz1 hz2 rfl (by omega) (σ (ς ⟨g5,0,ν⟩) j cap5) j (By (L.take j)) rfl (hown5.alloc _) ⟨w5.heap.size,0,ν⟩ 1 1 [ι κ ((C q).t)] rfl rfl (VI (η w5 _)) (Bt _ rfl) (by omega) (by unfold maxLen;have:=HLE.out;omega) (by have:=HLE.out;omega) (by simp;omega) _ rfl ?_;intro g6 cap6 w6 hO6 hgr6 hat6 hlt6) | (at_builtin;refine wpList_append_own _ rfl _ _ 99 rfl w.heap.size 3 i0 (ι κ 0) 1 8 Tryz.underlying99 HI.out hz0 hz1 hz2 rfl (by omega) (σ (ς ⟨w4.heap.size,0,ν⟩) 0 0) 0 [] rfl HOE4.out ⟨g,0,ν⟩ j cap (By (L.take j)) rfl (by rw [CS,VY];omega) (Sk.news (AF O4 (AD _ _))) (CR _) (by unfold maxLen;have:=HLE.out;omega) (by have:=HLE.out;omega) (by simp;omega) ?_;intro v1 w5 hown5 hgrow5 hnil5;obtain⟨g5,cap5,rfl⟩:=Ab hown5 (λe=>by have:=hnil5.1 e;simp at this);rw [VM,Vd] at hown5;have hb5:=Hw (AA B4 (AD _ (γ #[] 3))) hgrow5 (λx hx=>by have e:w4.heap.size=x:=VF hx;omega);have hs5:=hb5.size;clear hnil5) | (go_at_call 51;refine(FG _ n cc C s _ (hC.later hbW) hn).mono ?_;rintro e w4 ⟨rfl,hb4⟩;have B4:=AA hbW hb4;have O4:=AF hOW hb4;have HOE4:Hid ((w4.alloc (γ #[] 3)).ownsRow w.heap.size 3 1 (σ (ς ⟨w4.heap.size,0,ν⟩) 0 0) 0 []):=VU w4 #[] 0 (by have:=B4.size;omega) (by unfold maxLen;omega) rfl;have hs4:=B4.size;rw [HZ];obtain⟨b3,off3,e3,t0,t1,-⟩:=hC.later B4 q hq;obtain⟨rfl,rfl⟩:b2=b3/\off2=off3:=(by simpa using e3);clear e3) | (go_at_call 56;refine(Ba (3) _).mono ?_;rintro e w3 ⟨rfl,rfl⟩))
     obtain⟨q1,q2⟩:=C6 hjl hO6;have hb6:=Hw (hb5.alloc hb5.size _) hgr6 (λx hx=>by have e:g5=x:=VF hx;have:=(hown5.lt g5 rfl).1;omega);have q3:ck C n I (k+1)=(L.take j ++ [(C q).t],0):=by rw [HST.out,HT.out];rfl
     go_roundw
     case rel=>exact⟨k+1,g6,cap6,L.take j ++ [(C q).t],by omega,by go_num,by rw [q1],q3,q2,hb6⟩
     case measure=>simp [VQ];omega
    ·
     obtain rfl:j=cap:=by omega
     go_wp2_with (first | (at_builtin;have _h:=hb5;refine VR _ rfl _ _ _ rfl w.heap.size 3 i0 (ι κ 0) 1 8 Tryz.underlying99 HI.out hz0 hz1 hz2 rfl (by omega) (σ (ς ⟨g5,0,ν⟩) j cap5) j (By (L.take j)) rfl (hown5.alloc _) ⟨w5.heap.size,0,ν⟩ 1 1 [ι κ ((C q).t)] rfl rfl (VI (η w5 _)) (Bt _ rfl) (by omega) (by unfold maxLen;have:=HLE.out;omega) (by have:=HLE.out;omega) (by simp;omega) _ rfl ?_;intro g6 cap6 w6 hO6 hgr6 hat6 hlt6) | (at_builtin;refine wpList_append_own _ rfl _ _ 99 rfl w.heap.size 3 i0 (ι κ 0) 1 8 Tryz.underlying99 HI.out hz0 hz1 hz2 rfl (by omega) (σ (ς ⟨w4.heap.size,0,ν⟩) 0 0) 0 [] rfl HOE4.out ⟨g,0,ν⟩ j j (By (L.take j)) rfl (by rw [CS,VY];omega) (Sk.news (AF O4 (AD _ _))) (CR _) (by unfold maxLen;have:=HLE.out;omega) (by have:=HLE.out;omega) (by simp;omega) ?_;intro v1 w5 hown5 hgrow5 hnil5;obtain⟨g5,cap5,rfl⟩:=Ab hown5 (λe=>by have:=hnil5.1 e;simp at this);rw [VM,Vd] at hown5;have hb5:=Hw (AA B4 (AD _ (γ #[] 3))) hgrow5 (λx hx=>by have e:w4.heap.size=x:=VF hx;omega);have hs5:=hb5.size;clear hnil5) | (go_at_call 51;refine(FG _ n cc C s _ (hC.later hbW) hn).mono ?_;rintro e w4 ⟨rfl,hb4⟩;have B4:=AA hbW hb4;have O4:=AF hOW hb4;have HOE4:Hid ((w4.alloc (γ #[] 3)).ownsRow w.heap.size 3 1 (σ (ς ⟨w4.heap.size,0,ν⟩) 0 0) 0 []):=VU w4 #[] 0 (by have:=B4.size;omega) (by unfold maxLen;omega) rfl;have hs4:=B4.size;rw [HZ];obtain⟨b3,off3,e3,t0,t1,-⟩:=hC.later B4 q hq;obtain⟨rfl,rfl⟩:b2=b3/\off2=off3:=(by simpa using e3);clear e3) | (go_at_call 56;refine(Ba (3) _).mono ?_;rintro e w3 ⟨rfl,rfl⟩))
     obtain⟨q1,q2⟩:=C6 hjl hO6;have hb6:=Hw (hb5.alloc hb5.size _) hgr6 (λx hx=>by have e:g5=x:=VF hx;have:=(hown5.lt g5 rfl).1;omega);have q3:ck C n I (k+1)=(L.take j ++ [(C q).t],0):=by rw [HST.out,HT.out];rfl
     go_roundw
     case rel=>exact⟨k+1,g6,cap6,L.take j ++ [(C q).t],by omega,by go_num,by rw [q1],q3,q2,hb6⟩
     case measure=>simp [VQ];omega
  by_cases o7:o=7
  ·
   subst o7;have ea:AW 7=2:=by simp [AW]
   have hjL:L.length=j+2:=by omega
   have hjc:j<cap:=by omega
   have hjc1:(j:Int)<cap:=by omega
   have ix0:(0:Int)<((L.length - j:Nat):Int):=by omega
   have ix1:(1:Int)<((L.length - j:Nat):Int):=by omega
   have iz0:0<L.length - j:=by omega
   have iz1:1<L.length - j:=by omega
   have HsW:Hid ((wr.alloc (γ #[ι κ 7,ι κ mm,τ s] 42)).heap.size=wr.heap.size+1):=ω _ _;have HOE:Hid (((wr.alloc (γ #[ι κ 7,ι κ mm,τ s] 42)).alloc (γ #[] 3)).ownsRow w.heap.size 3 1 (σ (ς ⟨wr.heap.size+1,0,ν⟩) 0 0) 0 []):=by
    have q:=VU (base:=w.heap.size) (e:=3) (size:=1) (wr.alloc (γ #[ι κ 7,ι κ mm,τ s] 42)) #[] 0 (by rw [HsW.out];omega) (by unfold maxLen;omega) rfl;rw [HsW.out] at q;exact q
   have hOW:Sk (wr.alloc (γ #[ι κ 7,ι κ mm,τ s] 42)) w.heap.size g cap L:=AF hO (AD _ _);have hbW:υ w.heap.size w (wr.alloc (γ #[ι κ 7,ι κ mm,τ s] 42)):=AA hb (AD _ _);have a0:=hOW.at (j:=j) (by omega);have a1:=hOW.at (j:=j+1) (by omega);have HX0:Hid ((L.drop j).getD 0 0=L.getD j 0):=B9 L j 0;have HX1:Hid ((L.drop j).getD 1 0=L.getD (j+1) 0):=B9 L j 1;obtain⟨x,hx⟩:∃ x,L.getD j 0=x:=⟨_,rfl⟩;rw [hx] at a0 HX0;clear hx;obtain⟨y,hy⟩:∃ y,L.getD (j+1) 0=y:=⟨_,rfl⟩;rw [hy] at a1 HX1;clear hy;clear ea hjL;have HOEd:Hid (((wr.alloc (γ #[ι κ 7,ι κ mm,τ s] 42)).drew.alloc (γ #[] 3)).ownsRow w.heap.size 3 1 (σ (ς ⟨wr.heap.size+1,0,ν⟩) 0 0) 0 []):=by
    have q:=VU (base:=w.heap.size) (e:=3) (size:=1) (wr.alloc (γ #[ι κ 7,ι κ mm,τ s] 42)).drew #[] 0 (by show w.heap.size<=(wr.alloc (γ #[ι κ 7,ι κ mm,τ s] 42)).heap.size;rw [HsW.out];omega) (by unfold maxLen;omega) rfl;have e:(wr.alloc (γ #[ι κ 7,ι κ mm,τ s] 42)).drew.heap.size=wr.heap.size+1:=HsW.out;rw [e] at q;exact q
   have hOd:Sk (wr.alloc (γ #[ι κ 7,ι κ mm,τ s] 42)).drew w.heap.size g cap L:=AF hOW (CU _);have hbd:υ w.heap.size w (wr.alloc (γ #[ι κ 7,ι κ mm,τ s] 42)).drew:=AA hbW (CU _);by_cases hxy:x=y
   ·
    have HT:Hid (B7 C n ⟨7,mm,s⟩ (L.drop j)=(1,0)):=by show _=_;simp only [B7];rw [HX0.out,HX1.out,hxy];simp
    subst hxy;go_upto_region 24 with (go_at_call 56;refine(Ba (7) _).mono ?_;rintro e w3 ⟨rfl,rfl⟩)
    refine VH (S:=λx=>υ (wr.alloc (γ #[ι κ 7,ι κ mm,τ s] 42)).heap.size (wr.alloc (γ #[ι κ 7,ι κ mm,τ s] 42)) x) (by kernel_rfl) (CU _) (λjH=>?_);refine tk 0 jH ?_;refine tk 1 jH ?_;refine tk 2 jH ?_ (hy:=λx jS=>by have k0:=AB jS a0;have k1:=AB jS a1;go_simp<;>rfl)
    try simp only [zS]
    refine tk 3 jH ?_;refine tk 4 jH ?_;refine tk 5 jH ?_ (hy:=λx jS=>by have k0:=AB jS a0;have k1:=AB jS a1;go_simp<;>rfl)
    try simp only [zS]
    refine tk 6 jH ?_;refine tk 7 jH ?_
    try simp only [zS]
    refine VP (by kernel_rfl) ?_ _;clear jH;go_wp2_with (first | (at_builtin;have _h:=hb5;refine VR _ rfl _ _ _ rfl w.heap.size 3 i0 (ι κ 0) 1 8 Tryz.underlying99 HI.out hz0 hz1 hz2 rfl (by omega) (σ (ς ⟨g5,0,ν⟩) j cap5) j (By (L.take j)) rfl (hown5.alloc _) ⟨w5.heap.size,0,ν⟩ 1 1 [ι κ (1)] rfl rfl (VI (η w5 _)) (Bt _ rfl) (by omega) (by unfold maxLen;have:=HLE.out;omega) (by have:=HLE.out;omega) (by simp;omega) _ rfl ?_;intro g6 cap6 w6 hO6 hgr6 hat6 hlt6) | (at_builtin;refine wpList_append_own _ rfl _ _ 99 rfl w.heap.size 3 i0 (ι κ 0) 1 8 Tryz.underlying99 HI.out hz0 hz1 hz2 rfl (by omega) (σ (ς ⟨wr.heap.size+1,0,ν⟩) 0 0) 0 [] rfl HOEd.out ⟨g,0,ν⟩ j cap (By (L.take j)) rfl (by rw [CS,VY];omega) (Sk.news (AF hOd (AD _ _))) (CR _) (by unfold maxLen;have:=HLE.out;omega) (by have:=HLE.out;omega) (by simp;omega) ?_;intro v1 w5 hown5 hgrow5 hnil5;obtain⟨g5,cap5,rfl⟩:=Ab hown5 (λe=>by have:=hnil5.1 e;simp at this);rw [VM,Vd] at hown5;have hb5:=Hw (AA hbd (AD _ (γ #[] 3))) hgrow5 (λx hx=>by have e:wr.heap.size+1=x:=VF hx;omega);have hs5:=hb5.size;clear hnil5))
    obtain⟨q1,q2⟩:=C6 hjl hO6;have hb6:=Hw (hb5.alloc hb5.size _) hgr6 (λx hx=>by have e:g5=x:=VF hx;have:=(hown5.lt g5 rfl).1;omega);have q3:ck C n I (k+1)=(L.take j ++ [1],0):=by rw [HST.out,HT.out];rfl
    go_roundw
    case rel=>exact⟨k+1,g6,cap6,L.take j ++ [1],by omega,by go_num,by rw [q1],q3,q2,hb6⟩
    case measure=>simp [VQ];omega
   ·
    have HT:Hid (B7 C n ⟨7,mm,s⟩ (L.drop j)=(0,4)):=by show _=_;simp only [B7];rw [HX0.out,HX1.out];simp [hxy]
    have nxy:(x == y)=false:=by simpa using hxy
    go_upto_region 24 with (go_at_call 56;refine(Ba (7) _).mono ?_;rintro e w3 ⟨rfl,rfl⟩)
    refine VH (S:=λx=>υ (wr.alloc (γ #[ι κ 7,ι κ mm,τ s] 42)).heap.size (wr.alloc (γ #[ι κ 7,ι κ mm,τ s] 42)) x) (by kernel_rfl) (CU _) (λjH=>?_);refine tk 0 jH ?_;refine tk 1 jH ?_;refine tk 2 jH ?_ (hy:=λx jS=>by have k0:=AB jS a0;have k1:=AB jS a1;go_simp<;>rfl)
    try simp only [zS]
    refine tk 3 jH ?_;refine tk 4 jH ?_;refine tk 5 jH ?_ (hy:=λx jS=>by have k0:=AB jS a0;have k1:=AB jS a1;go_simp<;>rfl)
    try simp only [zS]
    refine tk 6 jH ?_;refine tk 7 jH ?_
    try simp only [zS]
    refine VP (by kernel_rfl) ?_ _;clear jH;go_wp2;have hE:=HFL.out 4 (by decide) (by rw [HT.out]);refine VE (VZ rfl _ _ _) rfl ⟨?_,hbd⟩;rw [hE];rfl
  by_cases o8:o=8
  ·
   subst o8;have ea:AW 8=2:=by simp [AW]
   have hjL:L.length=j+2:=by omega
   have hjc:j<cap:=by omega
   have hjc1:(j:Int)<cap:=by omega
   have ix0:(0:Int)<((L.length - j:Nat):Int):=by omega
   have ix1:(1:Int)<((L.length - j:Nat):Int):=by omega
   have iz0:0<L.length - j:=by omega
   have iz1:1<L.length - j:=by omega
   have HsW:Hid ((wr.alloc (γ #[ι κ 8,ι κ mm,τ s] 42)).heap.size=wr.heap.size+1):=ω _ _;have HOE:Hid (((wr.alloc (γ #[ι κ 8,ι κ mm,τ s] 42)).alloc (γ #[] 3)).ownsRow w.heap.size 3 1 (σ (ς ⟨wr.heap.size+1,0,ν⟩) 0 0) 0 []):=by
    have q:=VU (base:=w.heap.size) (e:=3) (size:=1) (wr.alloc (γ #[ι κ 8,ι κ mm,τ s] 42)) #[] 0 (by rw [HsW.out];omega) (by unfold maxLen;omega) rfl;rw [HsW.out] at q;exact q
   have hOW:Sk (wr.alloc (γ #[ι κ 8,ι κ mm,τ s] 42)) w.heap.size g cap L:=AF hO (AD _ _);have hbW:υ w.heap.size w (wr.alloc (γ #[ι κ 8,ι κ mm,τ s] 42)):=AA hb (AD _ _);have a0:=hOW.at (j:=j) (by omega);have a1:=hOW.at (j:=j+1) (by omega);have HX0:Hid ((L.drop j).getD 0 0=L.getD j 0):=B9 L j 0;have HX1:Hid ((L.drop j).getD 1 0=L.getD (j+1) 0):=B9 L j 1;obtain⟨x,hx⟩:∃ x,L.getD j 0=x:=⟨_,rfl⟩;rw [hx] at a0 HX0;clear hx;obtain⟨y,hy⟩:∃ y,L.getD (j+1) 0=y:=⟨_,rfl⟩;rw [hy] at a1 HX1;clear hy;clear ea hjL;have HOEd:Hid (((wr.alloc (γ #[ι κ 8,ι κ mm,τ s] 42)).drew.alloc (γ #[] 3)).ownsRow w.heap.size 3 1 (σ (ς ⟨wr.heap.size+1,0,ν⟩) 0 0) 0 []):=by
    have q:=VU (base:=w.heap.size) (e:=3) (size:=1) (wr.alloc (γ #[ι κ 8,ι κ mm,τ s] 42)).drew #[] 0 (by show w.heap.size<=(wr.alloc (γ #[ι κ 8,ι κ mm,τ s] 42)).heap.size;rw [HsW.out];omega) (by unfold maxLen;omega) rfl;have e:(wr.alloc (γ #[ι κ 8,ι κ mm,τ s] 42)).drew.heap.size=wr.heap.size+1:=HsW.out;rw [e] at q;exact q
   have hOd:Sk (wr.alloc (γ #[ι κ 8,ι κ mm,τ s] 42)).drew w.heap.size g cap L:=AF hOW (CU _);have hbd:υ w.heap.size w (wr.alloc (γ #[ι κ 8,ι κ mm,τ s] 42)).drew:=AA hbW (CU _);by_cases hxy:x=y
   ·
    have HT:Hid (B7 C n ⟨8,mm,s⟩ (L.drop j)=(1,0)):=by show _=_;simp only [B7];rw [HX0.out,HX1.out,hxy];simp
    subst hxy;go_upto_region 24 with (go_at_call 56;refine(Ba (8) _).mono ?_;rintro e w3 ⟨rfl,rfl⟩)
    refine VH (S:=λx=>υ (wr.alloc (γ #[ι κ 8,ι κ mm,τ s] 42)).heap.size (wr.alloc (γ #[ι κ 8,ι κ mm,τ s] 42)) x) (by kernel_rfl) (CU _) (λjH=>?_);refine tk 0 jH ?_;refine tk 1 jH ?_;refine tk 2 jH ?_ (hy:=λx jS=>by have k0:=AB jS a0;have k1:=AB jS a1;go_simp<;>rfl)
    try simp only [zS]
    refine tk 3 jH ?_;refine tk 4 jH ?_;refine tk 5 jH ?_ (hy:=λx jS=>by have k0:=AB jS a0;have k1:=AB jS a1;go_simp<;>rfl)
    try simp only [zS]
    refine tk 6 jH ?_;refine tk 7 jH ?_
    try simp only [zS]
    refine VP (by kernel_rfl) ?_ _;clear jH;go_wp2_with (first | (at_builtin;have _h:=hb5;refine VR _ rfl _ _ _ rfl w.heap.size 3 i0 (ι κ 0) 1 8 Tryz.underlying99 HI.out hz0 hz1 hz2 rfl (by omega) (σ (ς ⟨g5,0,ν⟩) j cap5) j (By (L.take j)) rfl (hown5.alloc _) ⟨w5.heap.size,0,ν⟩ 1 1 [ι κ (1)] rfl rfl (VI (η w5 _)) (Bt _ rfl) (by omega) (by unfold maxLen;have:=HLE.out;omega) (by have:=HLE.out;omega) (by simp;omega) _ rfl ?_;intro g6 cap6 w6 hO6 hgr6 hat6 hlt6) | (at_builtin;refine wpList_append_own _ rfl _ _ 99 rfl w.heap.size 3 i0 (ι κ 0) 1 8 Tryz.underlying99 HI.out hz0 hz1 hz2 rfl (by omega) (σ (ς ⟨wr.heap.size+1,0,ν⟩) 0 0) 0 [] rfl HOEd.out ⟨g,0,ν⟩ j cap (By (L.take j)) rfl (by rw [CS,VY];omega) (Sk.news (AF hOd (AD _ _))) (CR _) (by unfold maxLen;have:=HLE.out;omega) (by have:=HLE.out;omega) (by simp;omega) ?_;intro v1 w5 hown5 hgrow5 hnil5;obtain⟨g5,cap5,rfl⟩:=Ab hown5 (λe=>by have:=hnil5.1 e;simp at this);rw [VM,Vd] at hown5;have hb5:=Hw (AA hbd (AD _ (γ #[] 3))) hgrow5 (λx hx=>by have e:wr.heap.size+1=x:=VF hx;omega);have hs5:=hb5.size;clear hnil5))
    obtain⟨q1,q2⟩:=C6 hjl hO6;have hb6:=Hw (hb5.alloc hb5.size _) hgr6 (λx hx=>by have e:g5=x:=VF hx;have:=(hown5.lt g5 rfl).1;omega);have q3:ck C n I (k+1)=(L.take j ++ [1],0):=by rw [HST.out,HT.out];rfl
    go_roundw
    case rel=>exact⟨k+1,g6,cap6,L.take j ++ [1],by omega,by go_num,by rw [q1],q3,q2,hb6⟩
    case measure=>simp [VQ];omega
   ·
    have HT:Hid (B7 C n ⟨8,mm,s⟩ (L.drop j)=(0,4)):=by show _=_;simp only [B7];rw [HX0.out,HX1.out];simp [hxy]
    have nxy:(x == y)=false:=by simpa using hxy
    go_upto_region 24 with (go_at_call 56;refine(Ba (8) _).mono ?_;rintro e w3 ⟨rfl,rfl⟩)
    refine VH (S:=λx=>υ (wr.alloc (γ #[ι κ 8,ι κ mm,τ s] 42)).heap.size (wr.alloc (γ #[ι κ 8,ι κ mm,τ s] 42)) x) (by kernel_rfl) (CU _) (λjH=>?_);refine tk 0 jH ?_;refine tk 1 jH ?_;refine tk 2 jH ?_ (hy:=λx jS=>by have k0:=AB jS a0;have k1:=AB jS a1;go_simp<;>rfl)
    try simp only [zS]
    refine tk 3 jH ?_;refine tk 4 jH ?_;refine tk 5 jH ?_ (hy:=λx jS=>by have k0:=AB jS a0;have k1:=AB jS a1;go_simp<;>rfl)
    try simp only [zS]
    refine tk 6 jH ?_;refine tk 7 jH ?_
    try simp only [zS]
    refine VP (by kernel_rfl) ?_ _;clear jH;go_wp2;have hE:=HFL.out 4 (by decide) (by rw [HT.out]);refine VE (VZ rfl _ _ _) rfl ⟨?_,hbd⟩;rw [hE];rfl
  by_cases o12:o=12
  ·
   subst o12;have ea:AW 12=2:=by simp [AW]
   have hjL:L.length=j+2:=by omega
   have hjc:j<cap:=by omega
   have hjc1:(j:Int)<cap:=by omega
   have ix0:(0:Int)<((L.length - j:Nat):Int):=by omega
   have ix1:(1:Int)<((L.length - j:Nat):Int):=by omega
   have iz0:0<L.length - j:=by omega
   have iz1:1<L.length - j:=by omega
   have HsW:Hid ((wr.alloc (γ #[ι κ 12,ι κ mm,τ s] 42)).heap.size=wr.heap.size+1):=ω _ _;have HOE:Hid (((wr.alloc (γ #[ι κ 12,ι κ mm,τ s] 42)).alloc (γ #[] 3)).ownsRow w.heap.size 3 1 (σ (ς ⟨wr.heap.size+1,0,ν⟩) 0 0) 0 []):=by
    have q:=VU (base:=w.heap.size) (e:=3) (size:=1) (wr.alloc (γ #[ι κ 12,ι κ mm,τ s] 42)) #[] 0 (by rw [HsW.out];omega) (by unfold maxLen;omega) rfl;rw [HsW.out] at q;exact q
   have hOW:Sk (wr.alloc (γ #[ι κ 12,ι κ mm,τ s] 42)) w.heap.size g cap L:=AF hO (AD _ _);have hbW:υ w.heap.size w (wr.alloc (γ #[ι κ 12,ι κ mm,τ s] 42)):=AA hb (AD _ _);have a0:=hOW.at (j:=j) (by omega);have a1:=hOW.at (j:=j+1) (by omega);have HX0:Hid ((L.drop j).getD 0 0=L.getD j 0):=B9 L j 0;have HX1:Hid ((L.drop j).getD 1 0=L.getD (j+1) 0):=B9 L j 1;obtain⟨x,hx⟩:∃ x,L.getD j 0=x:=⟨_,rfl⟩;rw [hx] at a0 HX0;clear hx;obtain⟨y,hy⟩:∃ y,L.getD (j+1) 0=y:=⟨_,rfl⟩;rw [hy] at a1 HX1;clear hy;clear ea hjL;by_cases hx2:x=2
   ·
    by_cases hy2:y=2
    ·
     have HT:Hid (B7 C n ⟨12,mm,s⟩ (L.drop j)=(2,0)):=by show _=_;simp only [B7];rw [HX0.out,HX1.out,hx2,hy2];simp
     subst hx2;subst hy2;go_wp2_with (first | (at_builtin;have _h:=hb5;refine VR _ rfl _ _ _ rfl w.heap.size 3 i0 (ι κ 0) 1 8 Tryz.underlying99 HI.out hz0 hz1 hz2 rfl (by omega) (σ (ς ⟨g5,0,ν⟩) j cap5) j (By (L.take j)) rfl (hown5.alloc _) ⟨w5.heap.size,0,ν⟩ 1 1 [ι κ (2)] rfl rfl (VI (η w5 _)) (Bt _ rfl) (by omega) (by unfold maxLen;have:=HLE.out;omega) (by have:=HLE.out;omega) (by simp;omega) _ rfl ?_;intro g6 cap6 w6 hO6 hgr6 hat6 hlt6) | (at_builtin;refine wpList_append_own _ rfl _ _ 99 rfl w.heap.size 3 i0 (ι κ 0) 1 8 Tryz.underlying99 HI.out hz0 hz1 hz2 rfl (by omega) (σ (ς ⟨wr.heap.size+1,0,ν⟩) 0 0) 0 [] rfl HOE.out ⟨g,0,ν⟩ j cap (By (L.take j)) rfl (by rw [CS,VY];omega) (Sk.news (AF hOW (AD _ _))) (CR _) (by unfold maxLen;have:=HLE.out;omega) (by have:=HLE.out;omega) (by simp;omega) ?_;intro v1 w5 hown5 hgrow5 hnil5;obtain⟨g5,cap5,rfl⟩:=Ab hown5 (λe=>by have:=hnil5.1 e;simp at this);rw [VM,Vd] at hown5;have hb5:=Hw (AA hbW (AD _ (γ #[] 3))) hgrow5 (λx hx=>by have e:wr.heap.size+1=x:=VF hx;omega);have hs5:=hb5.size;clear hnil5) | (go_at_call 56;refine(Ba (12) _).mono ?_;rintro e w3 ⟨rfl,rfl⟩))
     obtain⟨q1,q2⟩:=C6 hjl hO6;have hb6:=Hw (hb5.alloc hb5.size _) hgr6 (λx hx=>by have e:g5=x:=VF hx;have:=(hown5.lt g5 rfl).1;omega);have q3:ck C n I (k+1)=(L.take j ++ [2],0):=by rw [HST.out,HT.out];rfl
     go_roundw
     case rel=>exact⟨k+1,g6,cap6,L.take j ++ [2],by omega,by go_num,by rw [q1],q3,q2,hb6⟩
     case measure=>simp [VQ];omega
    ·
     have HT:Hid (B7 C n ⟨12,mm,s⟩ (L.drop j)=(0,4)):=by show _=_;simp only [B7];rw [HX0.out,HX1.out];simp [hy2]
     subst hx2;have ny:(y == 2)=false:=by simpa using hy2
     go_wp2_with ((go_at_call 56;refine(Ba (12) _).mono ?_;rintro e w3 ⟨rfl,rfl⟩))
     have hE:=HFL.out 4 (by decide) (by rw [HT.out]);refine VE (VZ rfl _ _ _) rfl ⟨?_,hbW⟩;rw [hE];rfl
   ·
    have HT:Hid (B7 C n ⟨12,mm,s⟩ (L.drop j)=(0,4)):=by show _=_;simp only [B7];rw [HX0.out,HX1.out];simp [hx2]
    have nx:(x == 2)=false:=by simpa using hx2
    go_wp2_with ((go_at_call 56;refine(Ba (12) _).mono ?_;rintro e w3 ⟨rfl,rfl⟩))
    have hE:=HFL.out 4 (by decide) (by rw [HT.out]);refine VE (VZ rfl _ _ _) rfl ⟨?_,hbW⟩;rw [hE];rfl
  by_cases o13:o=13
  ·
   subst o13;have ea:AW 13=1:=by simp [AW]
   have hjL:L.length=j+1:=by omega
   have hjc:j<cap:=by omega
   have hjc1:(j:Int)<cap:=by omega
   have ix0:(0:Int)<((L.length - j:Nat):Int):=by omega
   have iz0:0<L.length - j:=by omega
   have HsW:Hid ((wr.alloc (γ #[ι κ 13,ι κ mm,τ s] 42)).heap.size=wr.heap.size+1):=ω _ _;have HOE:Hid (((wr.alloc (γ #[ι κ 13,ι κ mm,τ s] 42)).alloc (γ #[] 3)).ownsRow w.heap.size 3 1 (σ (ς ⟨wr.heap.size+1,0,ν⟩) 0 0) 0 []):=by
    have q:=VU (base:=w.heap.size) (e:=3) (size:=1) (wr.alloc (γ #[ι κ 13,ι κ mm,τ s] 42)) #[] 0 (by rw [HsW.out];omega) (by unfold maxLen;omega) rfl;rw [HsW.out] at q;exact q
   have hOW:Sk (wr.alloc (γ #[ι κ 13,ι κ mm,τ s] 42)) w.heap.size g cap L:=AF hO (AD _ _);have hbW:υ w.heap.size w (wr.alloc (γ #[ι κ 13,ι κ mm,τ s] 42)):=AA hb (AD _ _);have a0:=hOW.at (j:=j) (by omega);have HX0:Hid ((L.drop j).getD 0 0=L.getD j 0):=B9 L j 0;obtain⟨x,hx⟩:∃ x,L.getD j 0=x:=⟨_,rfl⟩;rw [hx] at a0 HX0;clear hx;clear ea hjL;by_cases hx2:x=2
   ·
    have HT:Hid (B7 C n ⟨13,mm,s⟩ (L.drop j)=(1,0)):=by show _=_;simp only [B7];rw [HX0.out,hx2];simp
    subst hx2;go_wp2_with (first | (at_builtin;have _h:=hb5;refine VR _ rfl _ _ _ rfl w.heap.size 3 i0 (ι κ 0) 1 8 Tryz.underlying99 HI.out hz0 hz1 hz2 rfl (by omega) (σ (ς ⟨g5,0,ν⟩) j cap5) j (By (L.take j)) rfl (hown5.alloc _) ⟨w5.heap.size,0,ν⟩ 1 1 [ι κ (1)] rfl rfl (VI (η w5 _)) (Bt _ rfl) (by omega) (by unfold maxLen;have:=HLE.out;omega) (by have:=HLE.out;omega) (by simp;omega) _ rfl ?_;intro g6 cap6 w6 hO6 hgr6 hat6 hlt6) | (at_builtin;refine wpList_append_own _ rfl _ _ 99 rfl w.heap.size 3 i0 (ι κ 0) 1 8 Tryz.underlying99 HI.out hz0 hz1 hz2 rfl (by omega) (σ (ς ⟨wr.heap.size+1,0,ν⟩) 0 0) 0 [] rfl HOE.out ⟨g,0,ν⟩ j cap (By (L.take j)) rfl (by rw [CS,VY];omega) (Sk.news (AF hOW (AD _ _))) (CR _) (by unfold maxLen;have:=HLE.out;omega) (by have:=HLE.out;omega) (by simp;omega) ?_;intro v1 w5 hown5 hgrow5 hnil5;obtain⟨g5,cap5,rfl⟩:=Ab hown5 (λe=>by have:=hnil5.1 e;simp at this);rw [VM,Vd] at hown5;have hb5:=Hw (AA hbW (AD _ (γ #[] 3))) hgrow5 (λx hx=>by have e:wr.heap.size+1=x:=VF hx;omega);have hs5:=hb5.size;clear hnil5) | (go_at_call 56;refine(Ba (13) _).mono ?_;rintro e w3 ⟨rfl,rfl⟩))
    obtain⟨q1,q2⟩:=C6 hjl hO6;have hb6:=Hw (hb5.alloc hb5.size _) hgr6 (λx hx=>by have e:g5=x:=VF hx;have:=(hown5.lt g5 rfl).1;omega);have q3:ck C n I (k+1)=(L.take j ++ [1],0):=by rw [HST.out,HT.out];rfl
    go_roundw
    case rel=>exact⟨k+1,g6,cap6,L.take j ++ [1],by omega,by go_num,by rw [q1],q3,q2,hb6⟩
    case measure=>simp [VQ];omega
   ·
    have HT:Hid (B7 C n ⟨13,mm,s⟩ (L.drop j)=(0,4)):=by show _=_;simp only [B7];rw [HX0.out];simp [hx2]
    have nx:(x == 2)=false:=by simpa using hx2
    go_wp2_with ((go_at_call 56;refine(Ba (13) _).mono ?_;rintro e w3 ⟨rfl,rfl⟩))
    have hE:=HFL.out 4 (by decide) (by rw [HT.out]);refine VE (VZ rfl _ _ _) rfl ⟨?_,hbW⟩;rw [hE];rfl
  obtain⟨wo,hwo⟩:∃ v,v=wr:=⟨_,rfl⟩;subst hwo;have HsW:Hid ((wo.alloc (γ #[ι κ o,ι κ mm,τ s] 42)).heap.size=wo.heap.size+1):=ω _ _;have HOE:Hid (((wo.alloc (γ #[ι κ o,ι κ mm,τ s] 42)).alloc (γ #[] 3)).ownsRow w.heap.size 3 1 (σ (ς ⟨wo.heap.size+1,0,ν⟩) 0 0) 0 []):=by
   have q:=VU (base:=w.heap.size) (e:=3) (size:=1) (wo.alloc (γ #[ι κ o,ι κ mm,τ s] 42)) #[] 0 (by rw [HsW.out];omega) (by unfold maxLen;omega) rfl;rw [HsW.out] at q;exact q
  have hOW:Sk (wo.alloc (γ #[ι κ o,ι κ mm,τ s] 42)) w.heap.size g cap L:=AF hO (AD _ _);have hbW:υ w.heap.size w (wo.alloc (γ #[ι κ o,ι κ mm,τ s] 42)):=AA hb (AD _ _);have HTY:Hid (B7 C n ⟨o,mm,s⟩ (L.drop j)=if (L.drop j).all (λx=>x == 1)=true then (1,0) else (0,4)):=by
   show _=_
   simp only [B7]
   rw [if_neg o2,if_neg o3,if_neg (by omega),if_neg o12,if_neg o13]
  have n2:(o == 2)=false:=by simpa using o2
  have n3:(o == 3)=false:=by simpa using o3
  have n7:(o == 7)=false:=by simpa using o7
  have n8:(o == 8)=false:=by simpa using o8
  have n12:(o == 12)=false:=by simpa using o12
  have n13:(o == 13)=false:=by simpa using o13
  clear o2 o3 o7 o8 o12 o13;by_cases hcj:j<cap
  ·
   have hcj1:(j:Int)<cap:=by omega
   go_wp2_with (go_at_call 56;refine(Ba (o) _).mono ?_;rintro e w3 ⟨rfl,rfl⟩)
   go_loopw [12,15,36] (λb _ i wx=>∃ q:Nat,q<=L.length - j/\i=ι κ q/\b=β (((L.drop j).take q).all (λx=>x == 1))/\wx=(wo.alloc (γ #[ι κ o,ι κ mm,τ s] 42))) (λ_ _ i _=>(L.length - j) - (VQ i).toNat)
   case atStart=>exact⟨0,VS _,rfl,rfl,rfl⟩
   case round=>
    obtain⟨q,hq,rfl,rfl,rfl⟩:=hrel;by_cases hql:q<L.length - j
    ·
     have a0:=hOW.at (j:=j+q) (by omega);have HNX:Hid (((L.drop j).take (q+1)).all (λx=>x == 1)=(((L.drop j).take q).all (λx=>x == 1) && (L.getD (j+q) 0 == 1))):=O9 L j q (by omega);obtain⟨x,hx⟩:∃ x,L.getD (j+q) 0=x:=⟨_,rfl⟩;rw [hx] at a0 HNX;clear hx;have iq:(q:Int)<((L.length - j:Nat):Int):=by omega
     obtain⟨bb,hbb⟩:∃ bb,((L.drop j).take q).all (λx=>x == 1)=bb:=⟨_,rfl⟩;rw [hbb] at HNX ⊢;clear hbb;cases bb
     ·
      go_wp2;go_roundw
      case rel=>exact⟨q+1,by omega,by go_num,by rw [HNX.out];rfl,trivial⟩
      case measure=>simp [VQ];omega
     ·
      go_wp2;go_roundw
      case rel=>exact⟨q+1,by omega,by go_num,by rw [HNX.out];simp,trivial⟩
      case measure=>simp [VQ];omega
    ·
     have HAL:Hid (((L.drop j).take q).all (λx=>x == 1)=(L.drop j).all (λx=>x == 1)):=by show _=_;rw [List.take_of_length_le (by simp;omega)]
     obtain⟨bb,hbb⟩:∃ bb,(L.drop j).all (λx=>x == 1)=bb:=⟨_,rfl⟩;rw [HAL.out];rw [hbb] at HTY ⊢;clear hbb HAL;have iq:¬(q:Int)<((L.length - j:Nat):Int):=by omega
     cases bb
     ·
      have HT:Hid (B7 C n ⟨o,mm,s⟩ (L.drop j)=(0,4)):=by show _=_;rw [HTY.out];rfl
      go_wp2;have hE:=HFL.out 4 (by decide) (by rw [HT.out]);refine VE (VZ rfl _ _ _) rfl ⟨?_,hbW⟩;rw [hE];rfl
     ·
      have HT:Hid (B7 C n ⟨o,mm,s⟩ (L.drop j)=(1,0)):=by show _=_;rw [HTY.out];rfl
      go_wp2_with (first | (at_builtin;have _h:=hb5;refine VR _ rfl _ _ _ rfl w.heap.size 3 i0 (ι κ 0) 1 8 Tryz.underlying99 HI.out hz0 hz1 hz2 rfl (by omega) (σ (ς ⟨g5,0,ν⟩) j cap5) j (By (L.take j)) rfl (hown5.alloc _) ⟨w5.heap.size,0,ν⟩ 1 1 [ι κ (1)] rfl rfl (VI (η w5 _)) (Bt _ rfl) (by omega) (by unfold maxLen;have:=HLE.out;omega) (by have:=HLE.out;omega) (by simp;omega) _ rfl ?_;intro g6 cap6 w6 hO6 hgr6 hat6 hlt6) | (at_builtin;refine wpList_append_own _ rfl _ _ 99 rfl w.heap.size 3 i0 (ι κ 0) 1 8 Tryz.underlying99 HI.out hz0 hz1 hz2 rfl (by omega) (σ (ς ⟨wo.heap.size+1,0,ν⟩) 0 0) 0 [] rfl HOE.out ⟨g,0,ν⟩ j cap (By (L.take j)) rfl (by rw [CS,VY];omega) (Sk.news (AF hOW (AD _ _))) (CR _) (by unfold maxLen;have:=HLE.out;omega) (by have:=HLE.out;omega) (by simp;omega) ?_;intro v1 w5 hown5 hgrow5 hnil5;obtain⟨g5,cap5,rfl⟩:=Ab hown5 (λe=>by have:=hnil5.1 e;simp at this);rw [VM,Vd] at hown5;have hb5:=Hw (AA hbW (AD _ (γ #[] 3))) hgrow5 (λx hx=>by have e:wo.heap.size+1=x:=VF hx;omega);have hs5:=hb5.size;clear hnil5))
      obtain⟨q1,q2⟩:=C6 hjl hO6;have hb6:=Hw (hb5.alloc hb5.size _) hgr6 (λx hx=>by have e:g5=x:=VF hx;have:=(hown5.lt g5 rfl).1;omega);have q3:ck C n I (k+1)=(L.take j ++ [1],0):=by rw [HST.out,HT.out];rfl
      go_roundw
      case rel=>exact⟨k+1,g6,cap6,L.take j ++ [1],by omega,by go_num,by rw [q1],q3,q2,hb6⟩
      case measure=>simp [VQ];omega
  ·
   obtain rfl:j=cap:=by omega
   go_wp2_with (go_at_call 56;refine(Ba (o) _).mono ?_;rintro e w3 ⟨rfl,rfl⟩)
   go_loopw [12,15,36] (λb _ i wx=>∃ q:Nat,q<=L.length - j/\i=ι κ q/\b=β (((L.drop j).take q).all (λx=>x == 1))/\wx=(wo.alloc (γ #[ι κ o,ι κ mm,τ s] 42))) (λ_ _ i _=>(L.length - j) - (VQ i).toNat)
   case atStart=>exact⟨0,VS _,rfl,rfl,rfl⟩
   case round=>
    obtain⟨q,hq,rfl,rfl,rfl⟩:=hrel;by_cases hql:q<L.length - j
    ·
     exfalso
     omega
    ·
     have HAL:Hid (((L.drop j).take q).all (λx=>x == 1)=(L.drop j).all (λx=>x == 1)):=by show _=_;rw [List.take_of_length_le (by simp;omega)]
     obtain⟨bb,hbb⟩:∃ bb,(L.drop j).all (λx=>x == 1)=bb:=⟨_,rfl⟩;rw [HAL.out];rw [hbb] at HTY ⊢;clear hbb HAL;have iq:¬(q:Int)<((L.length - j:Nat):Int):=by omega
     cases bb
     ·
      have HT:Hid (B7 C n ⟨o,mm,s⟩ (L.drop j)=(0,4)):=by show _=_;rw [HTY.out];rfl
      go_wp2;have hE:=HFL.out 4 (by decide) (by rw [HT.out]);refine VE (VZ rfl _ _ _) rfl ⟨?_,hbW⟩;rw [hE];rfl
     ·
      have HT:Hid (B7 C n ⟨o,mm,s⟩ (L.drop j)=(1,0)):=by show _=_;rw [HTY.out];rfl
      go_wp2_with (first | (at_builtin;have _h:=hb5;refine VR _ rfl _ _ _ rfl w.heap.size 3 i0 (ι κ 0) 1 8 Tryz.underlying99 HI.out hz0 hz1 hz2 rfl (by omega) (σ (ς ⟨g5,0,ν⟩) j cap5) j (By (L.take j)) rfl (hown5.alloc _) ⟨w5.heap.size,0,ν⟩ 1 1 [ι κ (1)] rfl rfl (VI (η w5 _)) (Bt _ rfl) (by omega) (by unfold maxLen;have:=HLE.out;omega) (by have:=HLE.out;omega) (by simp;omega) _ rfl ?_;intro g6 cap6 w6 hO6 hgr6 hat6 hlt6) | (at_builtin;refine wpList_append_own _ rfl _ _ 99 rfl w.heap.size 3 i0 (ι κ 0) 1 8 Tryz.underlying99 HI.out hz0 hz1 hz2 rfl (by omega) (σ (ς ⟨wo.heap.size+1,0,ν⟩) 0 0) 0 [] rfl HOE.out ⟨g,0,ν⟩ j j (By (L.take j)) rfl (by rw [CS,VY];omega) (Sk.news (AF hOW (AD _ _))) (CR _) (by unfold maxLen;have:=HLE.out;omega) (by have:=HLE.out;omega) (by simp;omega) ?_;intro v1 w5 hown5 hgrow5 hnil5;obtain⟨g5,cap5,rfl⟩:=Ab hown5 (λe=>by have:=hnil5.1 e;simp at this);rw [VM,Vd] at hown5;have hb5:=Hw (AA hbW (AD _ (γ #[] 3))) hgrow5 (λx hx=>by have e:wo.heap.size+1=x:=VF hx;omega);have hs5:=hb5.size;clear hnil5))
      obtain⟨q1,q2⟩:=C6 hjl hO6;have hb6:=Hw (hb5.alloc hb5.size _) hgr6 (λx hx=>by have e:g5=x:=VF hx;have:=(hown5.lt g5 rfl).1;omega);have q3:ck C n I (k+1)=(L.take j ++ [1],0):=by rw [HST.out,HT.out];rfl
      go_roundw
      case rel=>exact⟨k+1,g6,cap6,L.take j ++ [1],by omega,by go_num,by rw [q1],q3,q2,hb6⟩
      case measure=>simp [VQ];omega
def d0:Itm:=⟨0,0,⟨#[]⟩⟩
def FC(C:Nat->Clm)(n:Nat)(R:Nat->Itm)(t:Itm)(a:List Itm):Itm:=
 if t.o=1 then ⟨1,t.m,⟨#[]⟩⟩
 else if t.o=2 then ⟨2,0,t.s⟩
 else if t.o=3 then (match BF C t.s n with
  | some j=>R j
  | none=>d0)
 else C8 t.o (a.getD 0 d0) (a.getD 1 d0)
def vl(C:Nat->Clm)(n:Nat)(R:Nat->Itm)(I:Nat->Itm):Nat->List Itm
 | 0=>[]
 | k+1=>(vl C n R I k).take ((vl C n R I k).length - DZ (I k).o) ++ [FC C n R (I k) ((vl C n R I k).drop ((vl C n R I k).length - DZ (I k).o))]
def Bv(C:Nat->Clm)(n:Nat)(R:Nat->Itm)(I:Nat->Itm)(m:Nat):Itm:=(vl C n R I m).getD 0 d0
theorem EE{C:Nat->Clm}{n:Nat}{R I:Nat->Itm}:∀ {k:Nat} {d:Int},ex I k=ς d->(((vl C n R I k).length:Nat):Int)=d:=by
 intro k;induction k with
 | zero=>intro d h;simp [ex] at h;simp [vl,h]
 | succ k ih=>
  intro d h;rw [ex] at h;split at h
  · cases h
  ·
   rename_i x hx
   split at h
   ·
    rename_i hc
    cases h
    rw [vl];have:=ih hx;have ha:=FP (I k).o;have hl:=CV (I k).o;simp only [VJ,VY,List.length_cons,List.length_nil]
    omega
   · cases h
def C5(L:List Itm):Nat:=(L.map λx=>x.s.size).sum
theorem Je(A B:List Itm):C5 (A ++ B)=C5 A+C5 B:=by simp [C5]
theorem Ex(x:Itm)(B:List Itm):C5 (x :: B)=x.s.size+C5 B:=by simp [C5]
theorem FM(L:List Itm)(j:Nat):C5 L=C5 (L.take j)+C5 (L.drop j):=by rw [←Je,List.take_append_drop]
theorem AaA{L:List Itm}{k:Nat}(h:k<L.length):(L.getD k d0).s.size<=C5 L:=by
 have e:L.getD k d0=L[k]:=by simp [h]
 rw [e,FM L k,List.drop_eq_getElem_cons h,Ex];omega
theorem PH(a:List Itm):(a.getD 0 d0).s.size+(a.getD 1 d0).s.size<=C5 a:=by
 match a with
 | []=>exact VD _
 | [x]=>exact VD _
 | x :: y :: r=>
  have:C5 (x :: y :: r)=x.s.size+(y.s.size+C5 r):=by rw [Ex,Ex]
  rw [this];show x.s.size+y.s.size<=_
  omega
theorem Hi:(⟨#[]⟩:ByteArray).size=0:=rfl
theorem Mz(o:Int)(x y:Itm):(C8 o x y).s.size<=x.s.size+y.s.size:=by
 unfold C8 Kf;repeat' split
 all_goals simp only [Hi,ByteArray.size_append]
 all_goals omega
theorem Ei{s:ByteArray}(h:A6 s=true):s.size<=200:=by
 simp only [A6,VO,decide_eq_true_eq] at h
 omega
theorem N7{C:Nat->Clm}{n:Nat}{R:Nat->Itm}{t:Itm}(hR:∀ j,j<n->(R j).s.size<=200)(hok:Aq t.o t.m t.s=true)(a:List Itm):(FC C n R t a).s.size<=200+C5 a:=by
 unfold FC;split
 · simp only [Hi];omega
 ·
  rename_i h1
  split
  ·
   rename_i h2
   have:A6 t.s=true:=by
    rw [h2] at hok;simp [Aq,Bn] at hok
    exact hok.2
   have:=Ei this;simp only
   omega
  ·
   split
   ·
    split
    ·
     rename_i j hj
     have:=hR j (Bz hj).1;omega
    · simp only [d0,Hi];omega
   · have h1:=Mz t.o (a.getD 0 d0) (a.getD 1 d0);have h2:=PH a;omega
theorem Ii{C:Nat->Clm}{n:Nat}{R I:Nat->Itm}(hR:∀ j,j<n->(R j).s.size<=200){m:Nat}{x:Int}(hx:ex I m=ς x):∀ k,k<=m->C5 (vl C n R I k)<=200 * k:=by
 intro k;induction k with
 | zero=>intro _;simp [vl,C5]
 | succ k ih=>
  intro hk;obtain⟨d,hd,hok,had⟩:=GT hx (show k<m by omega);have h1:=ih (by omega);have h2:=N7 (C:=C) (n:=n) (R:=R) hR hok ((vl C n R I k).drop ((vl C n R I k).length - DZ (I k).o));have h3:=FM (vl C n R I k) ((vl C n R I k).length - DZ (I k).o);rw [vl,Je,Ex];have:C5 []=0:=rfl;omega
theorem Oq{C:Nat->Clm}{n:Nat}{I:Nat->Itm}{m k:Nat}(hk:k<m)(h:(ck C n I m).2=0)(ho:(I k).o=3):∃ j,BF C (I k).s n=ς j:=by
 rcases hc:BF C (I k).s n with _ | j
 ·
  exfalso
  have h0:(ck C n I k).2=0:=by
   rcases Classical.em ((ck C n I k).2=0) with e | e
   · exact e
   · have:=E6 (C:=C) (n:=n) (I:=I) e m (by omega);rw [this] at h;exact absurd h e
  have h1:(ck C n I (k+1)).2=3:=by
   rw [ck,if_neg (by simp [h0])];have:(MS C n (I k) (ck C n I k).1).2=3:=by
    unfold MS B7;rw [if_neg (by omega),if_pos ho,hc]
   rw [if_pos (by omega)];exact this
  have:=E6 (C:=C) (n:=n) (I:=I) (k:=k+1) (by omega) m (by omega);rw [this] at h;omega
 · exact⟨j,rfl⟩
def v3(x:Itm):List VN:=[ι κ x.o,ι κ x.m,τ x.s]
def BK:List Itm->List VN
 | []=>[]
 | x :: L=>v3 x ++ BK L
theorem BQ:∀ L:List Itm,(BK L).length=L.length * 3
 | []=>rfl
 | x :: L=>by rw [BK,VJ,BQ L];simp [v3];omega
theorem Gq:∀ A B:List Itm,BK (A ++ B)=BK A ++ BK B
 | [],B=>rfl
 | x :: A,B=>by rw [List.cons_append,BK,BK,Gq A B,List.append_assoc]
theorem Al:∀ L:List Itm,∀ u∈BK L,u.oneCell'=true
 | [],u,hu=>by cases hu
 | x :: L,u,hu=>by
  rw [BK,List.mem_append] at hu;rcases hu with hu | hu
  ·
   simp only [v3,List.mem_cons,List.not_mem_nil,or_false] at hu
   rcases hu with rfl | rfl | rfl <;> rfl
  · exact Al L u hu
theorem II(L:List Itm)(j:Nat):BK (L.take j) <+: BK L:=by
 refine⟨BK (L.drop j),?_⟩;rw [←Gq,List.take_append_drop]
theorem JX:∀ {L:List Itm} {k:Nat},k<L.length->(BK L)[k * 3]?=ς (ι κ (L.getD k d0).o)/\(BK L)[k * 3+1]?=ς (ι κ (L.getD k d0).m)/\(BK L)[k * 3+2]?=ς (τ (L.getD k d0).s)
 | x :: L,0,_=>⟨rfl,rfl,rfl⟩
 | x :: L,k+1,h=>by
  have e:=JX (L:=L) (k:=k) (by simpa using h);rw [BK,show (k+1) * 3=(v3 x).length+k * 3 from by simp [v3];omega,Nat.add_assoc,Nat.add_assoc]
  rw [List.getElem?_append_right (by omega),List.getElem?_append_right (by omega),List.getElem?_append_right (by omega)];simpa using e
def Sv(w:ο)(base g cap:Nat)(L:List Itm):Prop:=w.ownsRow base 60 3 (σ (ς ⟨g,0,ν⟩) L.length cap) L.length (BK L)
theorem Sv.at{w:ο}{base g cap:Nat}{L:List Itm}(h:Sv w base g cap L){j:Nat}(hj:j<L.length):w.cell? ⟨g,j * 3,ν⟩=ς (ι κ (L.getD j d0).o)/\w.cell? ⟨g,j * 3+1,ν⟩=ς (ι κ (L.getD j d0).m)/\w.cell? ⟨g,j * 3+2,ν⟩=ς (τ (L.getD j d0).s):=by
 obtain⟨h1,h2,h3⟩:=JX hj;exact⟨(h.cellAt _ (by omega)).trans h1,(h.cellAt _ (by omega)).trans h2,(h.cellAt _ (by omega)).trans h3⟩
theorem Sv.il{w:ο}{base g cap:Nat}{L:List Itm}(h:Sv w base g cap L)(hs:C5 L<=1048576)(j:Nat):IL w (ς ⟨g,j * 3,ν⟩) (L.length - j) (λi=>L.getD (j+i) d0):=by
 intro k hk;obtain⟨h1,h2,h3⟩:=h.at (j:=j+k) (by omega);have hz:=AaA (L:=L) (k:=j+k) (by omega);refine⟨g,j * 3,rfl,?_,?_,?_,by show (L.getD (j+k) d0).s.size<=_;omega⟩
 · rw [←Nat.add_mul];exact h1
 · rw [←Nat.add_mul];exact h2
 · rw [←Nat.add_mul];exact h3
theorem Sv.news{w:ο}{base g cap:Nat}{L:List Itm}(h:Sv w base g cap L){j:Nat}:∀ i u,(BK (L.take j))[i]?=ς u->w.cell? ((⟨g,0,ν⟩:Addr).add i)=ς u:=λi u hu=>by
 refine h.cells (g:=g) rfl i u ?_;obtain⟨r,hr⟩:=II L j;rw [←hr];obtain⟨hi,-⟩:=List.getElem?_eq_some_iff.1 hu;rw [List.getElem?_append_left hi];exact hu
theorem Ee{w4:ο}{base g4 cap4 j:Nat}{L:List Itm}{r:Itm}(hjl:j<=L.length)(h:w4.ownsRow base 60 3 (σ (ς ⟨g4,0,ν⟩) (j+1) cap4) (j+1) (BK (L.take j) ++ v3 r)):(L.take j ++ [r]).length=j+1/\Sv w4 base g4 cap4 (L.take j ++ [r]):=by
 have e1:(L.take j ++ [r]).length=j+1:=by simp;omega
 refine⟨e1,?_⟩;unfold Sv;rw [e1,Gq];have:BK [r]=v3 r:=by simp [BK]
 rw [this];exact h
theorem Jp{w:ο}{base g cap:Nat}{L:List Itm}(h:Sv w base g cap L):L.length<=cap:=by
 rcases h.2 with ⟨e,-⟩ | ⟨g',cap',cur,e,-,-,h1,-⟩
 · simp at e
 ·
  simp only [Value.slice.injEq,Option.some.injEq,Addr.mk.injEq,and_true,true_and] at e
  omega
theorem gB{W a b:ο}{r:Nat}(h:υ W.heap.size W a)(g:a.grownBy b (ς r))(hB:W.heap.size<=r):υ W.heap.size W b:=Hw h g (λx hx=>by have e:r=x:=VF hx;omega)
