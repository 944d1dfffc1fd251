import Derived.Test.YtoeencbghldmdaaGreatDoorJp
import Derived.Deep.CutBlock
open Bool renaming and_eq_true → VO
open Go renaming Calls → VK, Value → VN, World → ο, bodyPost_ret → VE, cell_of_row → ε, heap_alloc_new → η, wpAnyH_done → VP, wp_region_held_drew → VH
open Go.Ending renaming returned → ρ
open Go.Ground renaming data → φ, phase → ξ
open Go.IntKind renaming i64 → κ
open Go.Obj renaming cells → γ
open Go.Operand renaming tmp → δ
open Go.Proofs.Tryz renaming prog → μ
open Go.RowKit renaming intOf → VQ
open Go.Value renaming agg → χ, bool → β, int → ι, pointer → ψ, slice → σ, string → τ
open Go.World renaming news_of_block → VI
open List renaming nil_append → Vd
open Nat renaming add_zero → Vf, le_refl → VD, le_trans → VX, not_lt_zero → Vc, zero_add → VM, zero_le → VS
open Option renaming none → ν, some → ς
open Option.some renaming inj → VF
open Or renaming inl → VV, inr → Vb
namespace Go.Proofs.YtoeencbghldmdaaGreatDoor
open Go.RowKit
set_option maxRecDepth 20000
set_option maxHeartbeats 40000000
abbrev Sl:Oper:=⟨ς 78,.load 30 (δ 77),30,"l5_replay.go:486",#[⟨0,φ⟩],ν⟩
abbrev US:Oper:=⟨ς 82,.call ⟨.value (.func 88),#[δ 79,δ 81],#[47,3]⟩,60,"l5_replay.go:486",#[⟨2,φ⟩,⟨4,φ⟩],ν⟩
abbrev UR:Oper:=⟨ς 83,.buildSlice 30 1 #[(0,δ 82)],30,"l5_replay.go:486",#[⟨5,φ⟩],ν⟩
abbrev Sj:Oper:=⟨ς 46,.load 32 (δ 45),32,"l5_replay.go:502",#[⟨0,φ⟩],ν⟩
abbrev UQ:Oper:=⟨ς 50,.call ⟨.value (.func 87),#[δ 47,δ 48,δ 49,.const (ι κ 0)],#[47,29,3,3]⟩,31,"l5_replay.go:502",#[⟨2,φ⟩,⟨3,φ⟩,⟨4,φ⟩],ν⟩
abbrev UP:Oper:=⟨ς 51,.buildSlice 32 1 #[(0,δ 50)],32,"l5_replay.go:502",#[⟨5,φ⟩],ν⟩
abbrev EZ:Oper:=⟨ν,.store 29 (δ 140) (δ 139),0,"l5_replay.go:510",#[⟨10,φ⟩,⟨9,φ⟩,⟨9,.chain⟩,⟨0,ξ⟩,⟨1,ξ⟩,⟨2,ξ⟩,⟨3,ξ⟩,⟨4,ξ⟩,⟨5,ξ⟩,⟨6,ξ⟩,⟨7,ξ⟩,⟨8,ξ⟩,⟨9,ξ⟩],ν⟩
abbrev QU:Oper:=⟨ς 130,.buildSlice 29 0 #[],29,"l5_replay.go:510",#[],ν⟩
abbrev Nl:Oper:=⟨ς 138,.buildSlice 29 1 #[(0,δ 137)],29,"l5_replay.go:510",#[⟨7,φ⟩],ν⟩
abbrev Nk:Oper:=⟨ς 133,.call ⟨.builtin .append,#[δ 130,δ 132],#[29,29]⟩,29,"l5_replay.go:510",#[⟨0,φ⟩,⟨2,φ⟩],ν⟩
abbrev Nj:Oper:=⟨ς 139,.call ⟨.builtin .append,#[δ 133,δ 138],#[29,29]⟩,29,"l5_replay.go:510",#[⟨3,φ⟩,⟨8,φ⟩,⟨3,.chain⟩],ν⟩
abbrev Ni:Oper:=⟨ς 140,.fieldAddr 34 (δ 3) 2,0,"l5_replay.go:510",#[⟨0,ξ⟩,⟨1,ξ⟩,⟨2,ξ⟩,⟨3,ξ⟩,⟨4,ξ⟩,⟨5,ξ⟩,⟨6,ξ⟩,⟨7,ξ⟩,⟨8,ξ⟩,⟨9,ξ⟩],ν⟩
abbrev IT:Oper:=⟨ν,.store 60 (δ 151) (δ 150),0,"l5_replay.go:513",#[⟨5,φ⟩,⟨4,φ⟩,⟨4,.chain⟩,⟨0,ξ⟩,⟨1,ξ⟩,⟨2,ξ⟩,⟨3,ξ⟩,⟨4,ξ⟩],ν⟩
abbrev FI:Oper:=⟨ν,.store 30 (δ 161) (δ 160),0,"l5_replay.go:514",#[⟨9,φ⟩,⟨8,φ⟩,⟨6,.chain⟩,⟨0,ξ⟩,⟨1,ξ⟩,⟨2,ξ⟩,⟨3,ξ⟩,⟨4,ξ⟩,⟨5,ξ⟩,⟨6,ξ⟩,⟨7,ξ⟩,⟨8,ξ⟩],ν⟩
theorem QV{s:ByteArray}{m:Int}(h:BI s m=true):AM s=true:=by
 simp only [BI,VO] at h
 exact h.1
theorem RN{s:ByteArray}(h:AM s=true):Fc 3 0 s=true:=T4 (by simp [Aq,h])
theorem Qs{p:SP}{a:Option Addr}{c:Nat}(h:M8 p)(e:p.k=1)(hn:p.n2<=3):M8 { p with a2:=a,n2:=p.n2+1,c2:=c }:=by
 rcases h with ⟨h1,h2,h3,h4⟩ | ⟨h1,-⟩ | ⟨h1,-⟩ | ⟨h1,-⟩ | ⟨h1,-⟩
 · exact VV ⟨h1,by show 1<=p.n2+1;omega,by show p.n2+1<=20;omega,h4⟩
 all_goals omega
theorem T7{p:SP}{t:ByteArray}(h:M8 p)(e:p.k=3)(ht:AM t=true):M8 { p with col:=t }:=by
 rcases h with ⟨h1,-⟩ | ⟨h1,-⟩ | ⟨h1,h2,h3,-,h4⟩ | ⟨h1,-⟩ | ⟨h1,-⟩
 · omega
 · omega
 · exact Vb (Vb (VV ⟨h1,h2,h3,ht,h4⟩))
 · omega
 · omega
theorem T6{p:SP}{a:Option Addr}{n c:Nat}(h:M8 p)(e1:¬p.k=1)(e2:¬p.k=2)(_e3:¬p.k=3):M8 { p with a6:=a,n6:=n,c6:=c }:=by
 rcases h with ⟨h1,-⟩ | ⟨h1,-⟩ | h | h | h
 · omega
 · omega
 · exact Vb (Vb (VV h))
 · exact Vb (Vb (Vb (VV h)))
 · exact Vb (Vb (Vb (Vb h)))
theorem KU(g B:Nat)(ca:Option Addr)(cn cc z s:Nat)(w:ο)(h:Cu w g B ca cn cc z s)(hz:z<=1000000000)(hB:B<=w.heap.size) :
 VK μ 40 #[ψ (ς ⟨g,0,ν⟩)] w λe w'=>∃ (p:SP) (z' s':Nat),e=ρ (χ p.cs)/\Sm w' p/\M8 p/\z'<=z+1000/\Cu w' g B ca cn cc z' s'/\w.grownBy w' (ς g):=by
 have hlt:=h.lt;have R2:=W8.new w (p0 0 ⟨#[]⟩) 34;go_enter Tryz.func40,Tryz.ntmps40
 go_upto_region 2 with (go_at_call 86;refine(JL g B ca cn cc z s _ (h.al hB _) (by omega) (by simp;omega)).mono ?_;rintro e w1 ⟨tb,z1,s1,rfl,htb,hz1,hC1,hG1⟩)
 have hs1:=hG1.size;have hsa:(w.alloc (γ (p0 0 ⟨#[]⟩).cs 34)).heap.size=w.heap.size+1:=by simp
 have hs1':w.heap.size+1<=w1.heap.size:=by rw [←hsa];exact hs1
 have M0:Mk8 g B ca cn cc w w.heap.size w1.heap.size (p0 0 tb) z1 s1 (w1.alloc (γ (p0 0 tb).cs 34)):=
  ⟨hC1.al (by omega) _,⟨_,(R2.gr hG1 (λe=>by have:=VF e;omega)).gr (AU w1 _ ν) (λe=>by cases e)⟩,W8.new w1 (p0 0 tb) _,QM _ _ _ _ htb,AQ (P2 hG1) (AU _ _ _)⟩
 obtain⟨W,hW⟩:∃ W,w1.alloc (γ (p0 0 tb).cs 34)=W:=⟨_,rfl⟩;have hW':w1.alloc (γ #[ι κ 0,τ tb,σ ν 0 0,σ ν 0 0,τ ⟨#[]⟩,σ ν 0 0,σ ν 0 0,σ ν 0 0] 34)=W:=hW;rw [hW] at M0;rw [hW'];obtain⟨b3,hb3⟩:∃ b3,w1.heap.size=b3:=⟨_,rfl⟩;rw [hb3] at M0 hs1' ⊢;clear hW hW' hsa hs1 R2 hG1 hC1 hb3;have hl3:=M0.lt3;have c1:W.cell? ⟨b3,1,ν⟩=ς (τ tb):=M0.r3.q.c1;have hfst:True:=trivial;go_upto_region 5 with (first | (go_at_call 84;refine(MP tb _).mono ?_;rintro e w2 ⟨n,hn1,hn3,rfl,hco,hs2,hG2⟩;have M1:=M0.call (OU hG2) (M0.cu.gr hG2 (λ_ e=>by cases e) (by have:=M0.gr.size;omega)) (by omega) (by omega)) | (go_at_call 39;have _h:=hfst;refine(Az g B ca cn cc z1 s1 _ M1.cu (by omega) _ (by omega)).mono ?_;rintro e w3 ⟨r,z2,s2,rfl,hr0,hr1,-,hz2,hC2,hG3⟩;obtain⟨hw,rfl⟩:∃ k:Nat,r=k:=⟨r.toNat,by omega⟩;have M2:=M1.call hG3 hC2 (by omega) (by omega);replace hco:=hco.ka (KA.gr hG3 (λk e=>by have e:g=k:=VF e;omega)) (BG hl3);have hs3:=hG3.size;clear hfst))
 obtain⟨gc,hgc⟩:∃ gc,W.heap.size=gc:=⟨_,rfl⟩;rw [hgc] at hco hl3 hs2 ⊢;have M3:=M2.al hB (γ #[] 42);replace hco:=hco.ka (KA.gr (AU w3 (γ #[] 42) ν) (λk e=>by cases e)) (BG hl3);have hzw:Ie (w3.alloc (γ #[] 42)) (ς ⟨w3.heap.size,0,ν⟩) 0:=JC _ _;have hfw:b3<w3.heap.size:=by omega
 have hl4:gc<(w3.alloc (γ #[] 42)).heap.size:=by simp;omega
 obtain⟨V,hV⟩:∃ V,w3.alloc (γ #[] 42)=V:=⟨_,rfl⟩;rw [hV] at M3 hco hzw hl4 ⊢;obtain⟨gw,hgw⟩:∃ gw,w3.heap.size=gw:=⟨_,rfl⟩;rw [hgw] at hzw hfw ⊢;clear hV M2 M1 M0 hC2 hG3 hG2 hgc hgw hs3 hs2 c1;have hgg:∀ b off,(ς ⟨gc,0,ν⟩:Option Addr)=ς ⟨b,off,ν⟩->b≠g:=λb off e=>by cases e;omega
 have hfc:IE b3 (ς ⟨gc,0,ν⟩:Option Addr):=BG hl3;have kag:∀ {u u':ο},u.grownBy u' (ς g)->KA b3 u u':=λh=>KA.gr h (λk e=>by have e:g=k:=VF e;omega);go_cut [29] (λv wx=>∃ (b:Bool) (z3 s3:Nat),v=β b/\z3<=z+3/\Mk8 g B ca cn cc w w.heap.size b3 (p0 0 tb) z3 s3 wx/\Co wx (ς ⟨gc,0,ν⟩) n)
 case first=>
  go_wp2_with (go_at_call 39;refine(Az g B ca cn cc z2 s2 _ M3.cu (by omega) _ (by omega)).mono ?_;rintro e w4 ⟨r4,z3,s3,rfl,hr40,hr41,-,hz3,hCp,hGp⟩)
  all_goals go_meet
  all_goals first | exact⟨_,z3,s3,rfl,by omega,M3.call hGp hCp (by omega) (by omega),hco.ka (kag hGp) hfc⟩ | exact⟨_,z2,s2,rfl,by omega,M3,hco⟩
 case rest=>
  obtain⟨bb,z3,s3,rfl,hz3,M4,hco4⟩:=hcut;have hl5:=M4.lt3;have hg5:=M4.gr.size;clear M3 hco hzw;go_upto_if 29 with (fail)
  go_cut [6] (λv wx=>∃ (aw:Option Addr) (nw cw z4 s4:Nat),v=σ aw nw cw/\z4<=z+100/\nw<=15/\Ie wx aw nw/\IE b3 aw/\Mk8 g B ca cn cc w w.heap.size b3 (p0 0 tb) z4 s4 wx/\Co wx (ς ⟨gc,0,ν⟩) n)
  case first=>as_aux_lemma=>
   cases bb
   ·
    go_wp2;go_meet
    exact⟨ς ⟨gw,0,ν⟩,0,0,z3,s3,rfl,by omega,by omega,JC _ _,BG hfw,M4,hco4⟩
   ·
    go_wp2_with (go_at_call 87;refine(Dg g B ca cn cc 3 (by omega) 0 z3 s3 (ς ⟨gc,0,ν⟩) n n 1 _ (by omega) M4.cu (by omega) (by omega) hco4 hgg hn1 (by omega)).mono ?_;rintro e w5 ⟨m5,g5,cap5,z4,s4,xs5,rfl,hm5,hm5',hI5,hO5,hz4,hC5,hG5⟩)
    go_meet
    have e15:nb 3=15:=rfl;have e75:pb 3=75:=rfl;have hg5':=A3 hO5;exact⟨ς ⟨g5,0,ν⟩,m5,cap5,z4,s4,rfl,by omega,by omega,HU hO5 hI5 (by omega) (by omega),BG (by omega),M4.call hG5 hC5 (by omega) (by omega),hco4.ka (kag hG5) hfc⟩
  case rest=>
   obtain⟨aw,nw,cw,z4,s4,rfl,hz4,hnw,hiw,hfaw,M5,hco5⟩:=hcut;have hl6:=M5.lt3;have hg6:=M5.gr.size;clear M4 hco4;obtain⟨U0,hU0⟩:∃ U0,wc=U0:=⟨_,rfl⟩;rw [hU0] at M5 hiw hco5 hl6 hg6 ⊢;clear hU0;have J5:Mj g B ca cn cc w U0 b3 (p0 0 tb) z4 s4 U0:=⟨M5,λ_ _ _ h=>h,hB,hlt,by omega,VD _⟩;go_upto_block 0 with (fail)
   go_cut [5,8,9,10,11,12,56,67,87,109] (λ_ _ _ _ _ _ _ _ _ _ wx=>∃ (p:SP) (z5 s5:Nat),z5<=z+600/\Mj g B ca cn cc w U0 b3 p z5 s5 wx/\(p.k=1->1<=p.n2/\p.n2<=3)/\(p.k=2->∃ gv nv cv xsv,p={ p0 2 tb with a3:=ς ⟨gv,0,ν⟩,n3:=nv,c3:=cv }/\1<=nv/\nv<=3/\wx.ownsRow (b3+1) 60 3 (σ (ς ⟨gv,0,ν⟩) nv cv) nv xsv/\Its nv xsv)/\M8 p)
   case first=>
    by_cases h6:hw<=6
    ·
     have h6i:(hw:Int)<=6:=by omega
     go_upto_region 15 with (fail)
     go_cut [5,56] (λv5 v wx=>v5=ι κ hw/\∃ (b:Bool) (z6 s6:Nat),v=β b/\z6<=z+101/\Mj g B ca cn cc w U0 b3 (p0 0 tb) z6 s6 wx)
     case first=>as_aux_lemma=>
      go_wp2_with (go_at_call 39;refine(Az g B ca cn cc z4 s4 _ J5.m.cu (by omega) _ (by omega)).mono ?_;rintro e w6 ⟨r6,z6,s6,rfl,hr60,hr61,-,hz6,hCp,hGp⟩;have J6:=J5.call hGp hCp)
      all_goals go_meet
      all_goals first | exact⟨by first | rfl | simp [*],_,z6,s6,rfl,by omega,J6⟩ | exact⟨by first | rfl | simp [*],_,z4,s4,rfl,by omega,J5⟩
     case rest=>
      obtain⟨rfl,bq,z6,s6,rfl,hz6,J6⟩:=hcut;have c0:=J6.m.r3.q.c0;have f0:=J6.m.r3.f 0 (by omega);cases bq
      ·
       as_aux_lemma=>
        have J7i:=J6.wk 2;go_wp2;obtain⟨i0,hi,hi0,hi1,hi2⟩:=info_parts Tryz.info60v;have HI:Hid (Tryz.prog.info? 60=ς i0):=hi;clear hi;go_loopw [8,73] (λ_ i wr=>∃ (j zz ss:Nat) (a:Option Addr) (c:Nat) (xs:List VN),j<=n/\i=ι κ j/\zz<=z+110+2 * j/\Mj g B ca cn cc w U0 b3 { p0 2 tb with a3:=a,n3:=j,c3:=c } zz ss wr/\wr.ownsRow U0.heap.size 60 3 (σ a j c) j xs/\Its j xs) (λ_ i _=>n - (VQ i).toNat)
        case atStart=>exact⟨0,z6,s6,ν,0,[],by omega,rfl,by omega,J7i,World.ownsRow_nil _ _ _ _,⟨rfl,λ_ h=>absurd h (Vc _)⟩⟩
        case round=>
         obtain⟨j,zz,ss,a,c,xs,hj,rfl,hzz,J8,hO,hIt⟩:=hrel;have hb3:g<U0.heap.size:=by omega
         by_cases hjl:j<n
         ·
          obtain⟨bb1,off,m,S,e,d0,d1,hS⟩:=hco5.ka J8.ka hfc j hjl;cases e
          rw [VM] at d0 d1;go_wp2;have J9d:=(J8.al (γ #[τ S,ι κ m] 58)).dr;have c3:(wr.alloc (γ #[τ S,ι κ m] 58)).drew.cell? ⟨b3,3,ν⟩=ς (σ a j c):=J9d.m.r3.q.c3;have e1:(wr.alloc (γ #[τ S,ι κ m] 58)).drew.cell? ⟨wr.heap.size,1,ν⟩=ς (ι κ m):=(ε _ _ 1 _ _ _ (η wr _)).trans rfl;have hs9:=J9d.m.gr.size;have l8:=J8.m.lt3;have sz8:=J8.sz;have hO8:=(hO.alloc (γ #[τ S,ι κ m] 58)).drew;have hrow:∀ k,Value.ownBlock (σ a j c)=ς k->k<wr.heap.size:=λk e=>(hO.lt k e).2;obtain⟨Y,hY⟩:∃ Y,(wr.alloc (γ #[τ S,ι κ m] 58)).drew=Y:=⟨_,rfl⟩;have hYs:wr.heap.size<Y.heap.size:=by rw [←hY];show wr.heap.size<(wr.alloc _).heap.size;simp
          rw [hY] at J9d c3 e1 hs9 hO8;refine VH (S:=λw'=>w'.cell? ⟨wr.heap.size,1,ν⟩=ς (ι κ m)) (by kernel_rfl) (by rw [hY];exact e1) (λ_=>?_);rw [hY];refine tk 0 (v:=ψ (ς ⟨b3,3,ν⟩)) e1 ?_;simp only [zS]
          refine tk 2 (v:=ψ (ς ⟨g,0,ν⟩)) e1 ?_;simp only [zS]
          refine tk 3 (v:=ψ (ς ⟨wr.heap.size,1,ν⟩)) e1 ?_;simp only [zS]
          refine tk 4 (v:=ι κ m) e1 ?_;simp only [zS]
          refine wpAnyH_ready (rs:=[1,5]) (by kernel_rfl) (by simp) ?_;refine AllReadyH.cons (o:=Sl) rfl (λK hK=>?_) (AllReadyH.cons (o:=US) rfl (λK hK=>?_) AllReadyH.nil)
          ·
           go_simp;refine hK.out _ _ e1 (λ_=>?_);clear hK K;refine rd 5 (λK hK=>?_);go_simp;refine(Dn g B ca cn cc zz ss m _ J9d.m.cu (by omega) (by omega)).mono ?_;rintro e w9 ⟨o9,q9,T9,z9,s9,rfl,hT9,hz9,hC9,hG9⟩;have J10:=J9d.call hG9 hC9;have e2:=Aw hG9 e1 (λe=>by have e:wr.heap.size=g:=VF e;omega);have hO10:=(AS hO8 hG9 hb3).alloc (γ #[ι κ o9,ι κ q9,τ T9] 60);have J11:=J10.al (γ #[ι κ o9,ι κ q9,τ T9] 60);have e3:=Aw (AU w9 (γ #[ι κ o9,ι κ q9,τ T9] 60) ν) e2 (λe=>by cases e);have sz10:=J10.sz;have hs10:=J10.m.gr.size;refine hK.out _ _ e2 (λ_=>?_);clear hK K;refine rd 6 (λK hK=>?_);go_simp;refine hK.out _ _ e3 (λ_=>?_);clear hK K;refine rd 7 (λK hK=>?_);rw [if_pos (by kernel_rfl)];refine wp_append_lies _ _ _ _ rfl U0.heap.size 60 i0 (χ #[ι κ 0,ι κ 0,τ ⟨#[]⟩]) 3 32 Tryz.underlying30 HI.out hi0 hi1 hi2 rfl (by omega) (σ a j c) j xs rfl hO10 ⟨w9.heap.size,0,ν⟩ 1 1 [ι κ o9,ι κ q9,τ T9] rfl rfl (VI (η w9 _)) (Its.one _ _ _ hT9).cells1 (by omega) (by unfold maxLen;omega) (by omega) (by simp;omega) _ rfl ?_;intro g11 cap11 w11 hO11 hgr11 hat11 hlt11;refine hK.out _ _ (Aw hgr11 e3 (λe=>absurd (hrow wr.heap.size e.symm) (Nat.lt_irrefl _))) (λ_=>?_);clear hK K;simp only [zS]
           have e4:=Aw hgr11 e3 (λe=>absurd (hrow wr.heap.size e.symm) (Nat.lt_irrefl _));have hr11:∀ k,Value.ownBlock (σ a j c)=ς k->U0.heap.size<=k:=λk e=>(hO10.lt k e).1;have W11:=J11.w8 hgr11 hr11 hl6;have c3'':=W11.q.c3;have f3:=W11.f 3 (by omega);have hg11:=A3 hO11;have hI11:=hIt.app (Its.one o9 q9 T9 hT9);have J12:=J11.app hgr11 hr11 hl6 (W11.s3 (ς ⟨g11,0,ν⟩) (j+1) cap11) ((QM b3 w11 2 tb htb).w3 _ _ _ (JA hO11 hI11) (by omega) (BG (by omega)));have e5:=(KA.set w11 b3 3 (σ (ς ⟨g11,0,ν⟩) (j+1) cap11) (VD b3)) _ _ l8 e4;refine tk 8 (v:=ψ (ς ⟨b3,3,ν⟩)) e4 ?_;simp only [zS]
           refine rd 9 (λK hK=>?_);go_simp;refine hK.out _ _ e5 (λ_=>?_);clear hK K;refine VP (by kernel_rfl) ?_ _;go_wp2;go_roundw
           case rel=>exact⟨j+1,z9,s9,ς ⟨g11,0,ν⟩,cap11,_,by omega,by go_num,by omega,J12,AS hO11 (Ai w11 b3 3 _) hl6,hI11⟩
           case measure=>simp [VQ];omega
          ·
           go_simp;refine(Dn g B ca cn cc zz ss m _ J9d.m.cu (by omega) (by omega)).mono ?_;rintro e w9 ⟨o9,q9,T9,z9,s9,rfl,hT9,hz9,hC9,hG9⟩;have J10:=J9d.call hG9 hC9;have e2:=Aw hG9 e1 (λe=>by have e:wr.heap.size=g:=VF e;omega);have hO10:=(AS hO8 hG9 hb3).alloc (γ #[ι κ o9,ι κ q9,τ T9] 60);have J11:=J10.al (γ #[ι κ o9,ι κ q9,τ T9] 60);have e3:=Aw (AU w9 (γ #[ι κ o9,ι κ q9,τ T9] 60) ν) e2 (λe=>by cases e);have sz10:=J10.sz;have hs10:=J10.m.gr.size;refine hK.out _ _ e2 (λ_=>?_);clear hK K;have c31:w9.cell? ⟨b3,3,ν⟩=ς (σ a j c):=J10.m.r3.q.c3;refine wpAnyH_ready (rs:=[1,6]) (by kernel_rfl) (by simp) ?_;refine AllReadyH.cons (o:=Sl) rfl (λK hK=>?_) (AllReadyH.cons (o:=UR) rfl (λK hK=>?_) AllReadyH.nil)
           ·
            go_simp;refine hK.out _ _ e2 (λ_=>?_);clear hK K;refine rd 6 (λK hK=>?_);go_simp;refine hK.out _ _ e3 (λ_=>?_);clear hK K;refine rd 7 (λK hK=>?_);rw [if_pos (by kernel_rfl)];refine wp_append_lies _ _ _ _ rfl U0.heap.size 60 i0 (χ #[ι κ 0,ι κ 0,τ ⟨#[]⟩]) 3 32 Tryz.underlying30 HI.out hi0 hi1 hi2 rfl (by omega) (σ a j c) j xs rfl hO10 ⟨w9.heap.size,0,ν⟩ 1 1 [ι κ o9,ι κ q9,τ T9] rfl rfl (VI (η w9 _)) (Its.one _ _ _ hT9).cells1 (by omega) (by unfold maxLen;omega) (by omega) (by simp;omega) _ rfl ?_;intro g11 cap11 w11 hO11 hgr11 hat11 hlt11;refine hK.out _ _ (Aw hgr11 e3 (λe=>absurd (hrow wr.heap.size e.symm) (Nat.lt_irrefl _))) (λ_=>?_);clear hK K;simp only [zS]
            have e4:=Aw hgr11 e3 (λe=>absurd (hrow wr.heap.size e.symm) (Nat.lt_irrefl _));have hr11:∀ k,Value.ownBlock (σ a j c)=ς k->U0.heap.size<=k:=λk e=>(hO10.lt k e).1;have W11:=J11.w8 hgr11 hr11 hl6;have c3'':=W11.q.c3;have f3:=W11.f 3 (by omega);have hg11:=A3 hO11;have hI11:=hIt.app (Its.one o9 q9 T9 hT9);have J12:=J11.app hgr11 hr11 hl6 (W11.s3 (ς ⟨g11,0,ν⟩) (j+1) cap11) ((QM b3 w11 2 tb htb).w3 _ _ _ (JA hO11 hI11) (by omega) (BG (by omega)));have e5:=(KA.set w11 b3 3 (σ (ς ⟨g11,0,ν⟩) (j+1) cap11) (VD b3)) _ _ l8 e4;refine tk 8 (v:=ψ (ς ⟨b3,3,ν⟩)) e4 ?_;simp only [zS]
            refine rd 9 (λK hK=>?_);go_simp;refine hK.out _ _ e5 (λ_=>?_);clear hK K;refine VP (by kernel_rfl) ?_ _;go_wp2;go_roundw
            case rel=>exact⟨j+1,z9,s9,ς ⟨g11,0,ν⟩,cap11,_,by omega,by go_num,by omega,J12,AS hO11 (Ai w11 b3 3 _) hl6,hI11⟩
            case measure=>simp [VQ];omega
           ·
            go_simp;refine hK.out _ _ e3 (λ_=>?_);clear hK K;have c32:(w9.alloc (γ #[ι κ o9,ι κ q9,τ T9] 60)).cell? ⟨b3,3,ν⟩=ς (σ a j c):=J11.m.r3.q.c3;refine rd 1 (λK hK=>?_);go_simp;refine hK.out _ _ e3 (λ_=>?_);clear hK K;refine rd 7 (λK hK=>?_);rw [if_pos (by kernel_rfl)];refine wp_append_lies _ _ _ _ rfl U0.heap.size 60 i0 (χ #[ι κ 0,ι κ 0,τ ⟨#[]⟩]) 3 32 Tryz.underlying30 HI.out hi0 hi1 hi2 rfl (by omega) (σ a j c) j xs rfl hO10 ⟨w9.heap.size,0,ν⟩ 1 1 [ι κ o9,ι κ q9,τ T9] rfl rfl (VI (η w9 _)) (Its.one _ _ _ hT9).cells1 (by omega) (by unfold maxLen;omega) (by omega) (by simp;omega) _ rfl ?_;intro g11 cap11 w11 hO11 hgr11 hat11 hlt11;refine hK.out _ _ (Aw hgr11 e3 (λe=>absurd (hrow wr.heap.size e.symm) (Nat.lt_irrefl _))) (λ_=>?_);clear hK K;simp only [zS]
            have e4:=Aw hgr11 e3 (λe=>absurd (hrow wr.heap.size e.symm) (Nat.lt_irrefl _));have hr11:∀ k,Value.ownBlock (σ a j c)=ς k->U0.heap.size<=k:=λk e=>(hO10.lt k e).1;have W11:=J11.w8 hgr11 hr11 hl6;have c3'':=W11.q.c3;have f3:=W11.f 3 (by omega);have hg11:=A3 hO11;have hI11:=hIt.app (Its.one o9 q9 T9 hT9);have J12:=J11.app hgr11 hr11 hl6 (W11.s3 (ς ⟨g11,0,ν⟩) (j+1) cap11) ((QM b3 w11 2 tb htb).w3 _ _ _ (JA hO11 hI11) (by omega) (BG (by omega)));have e5:=(KA.set w11 b3 3 (σ (ς ⟨g11,0,ν⟩) (j+1) cap11) (VD b3)) _ _ l8 e4;refine tk 8 (v:=ψ (ς ⟨b3,3,ν⟩)) e4 ?_;simp only [zS]
            refine rd 9 (λK hK=>?_);go_simp;refine hK.out _ _ e5 (λ_=>?_);clear hK K;refine VP (by kernel_rfl) ?_ _;go_wp2;go_roundw
            case rel=>exact⟨j+1,z9,s9,ς ⟨g11,0,ν⟩,cap11,_,by omega,by go_num,by omega,J12,AS hO11 (Ai w11 b3 3 _) hl6,hI11⟩
            case measure=>simp [VQ];omega
         ·
          obtain rfl:j=n:=by omega
          obtain⟨gv,cv,ev,-,-⟩:=hO.form (by omega);cases ev
          go_wp2;go_meet
          exact⟨_,zz,ss,by omega,J8,(λe=>absurd (show (2:Int)=1 from e) (by decide)),(λ_=>⟨gv,_,_,xs,rfl,hn1,hn3,hO.mono hl6,hIt⟩),Vb (VV ⟨rfl,rfl,hn1,VX hn3 (by omega),rfl,rfl,rfl,rfl⟩)⟩
      ·
       as_aux_lemma=>
        have J7:=J6.wk 1;have c2:=J7.m.r3.q.c2;have f2:=J7.m.r3.f 2 (by omega);have J8:=J7.w2 (ς ⟨gc,0,ν⟩) n n (hco5.ka J7.ka hfc) (by omega) hfc;go_wp2;go_meet
        exact⟨_,z6,s6,by omega,J8,(λ_=>⟨hn1,hn3⟩),(λe=>absurd (show (1:Int)=2 from e) (by decide)),VV ⟨rfl,hn1,VX hn3 (by omega),rfl,rfl,rfl,rfl,rfl⟩⟩
    ·
     have h6i:¬(hw:Int)<=6:=by omega
     by_cases h8:hw<=8
     ·
      as_aux_lemma=>
       have h8i:(hw:Int)<=8:=by omega
       have J6:=J5.wk 3;have c0:=J5.m.r3.q.c0;have f0:=J5.m.r3.f 0 (by omega);go_wp2_with (first | (go_at_call 39;refine(Az g B ca cn cc z4 s4 _ J6.m.cu (by omega) _ (by omega)).mono ?_;rintro e w6 ⟨r6,z6,s6,rfl,hr60,hr61,-,hz6,hCp,hGp⟩;obtain⟨k,rfl⟩:∃ k:Nat,r6=k:=⟨r6.toNat,by omega⟩;have J7:=J6.call hGp hCp;obtain⟨b,off,m,S,e,d0,d1,hS⟩:=hco5.ka J7.ka hfc k (by omega);cases e;rw [VM] at d0 d1;have l7:=J7.m.lt3;have J8':=J7.al (γ #[τ S,ι κ m] 58);have c4:=J8'.m.r3.q.c4;have f4:=J8'.m.r3.f 4 (by omega);have c4':=J7.m.r3.q.c4;have f4':=J7.m.r3.f 4 (by omega);have J8:=J7.w4 S (Vb (QV hS));have J9:=J8.al (γ #[τ S,ι κ m] 58);have hs9:=J9.m.gr.size;have l9:=J9.m.lt3) | (go_at_call 87;refine(Dg g B ca cn cc 3 (by omega) 0 z6 s6 (ς ⟨gc,0,ν⟩) n n m _ (by omega) J9.m.cu (by omega) (by omega) (hco5.ka J9.ka hfc) hgg hn1 (by omega)).mono ?_;rintro e w7 ⟨m7,g7,cap7,z7,s7,xs7,rfl,hm7,hm7',hI7,hO7,hz7,hC7,hG7⟩;have e15:nb 3=15:=rfl;have e75:pb 3=75:=rfl;have hg7:=A3 hO7;have J10:=J9.call hG7 hC7;have c5:=J10.m.r3.q.c5;have f5:=J10.m.r3.f 5 (by omega);have J11:=J10.w5 (ς ⟨g7,0,ν⟩) m7 cap7 (HU hO7 hI7 (by omega) (by omega)) (by omega) (BG (by omega));have c6:=J11.m.r3.q.c6;have f6:=J11.m.r3.f 6 (by omega);have J12:=J11.w6 aw nw cw (hiw.ka J11.ka hfaw) (by omega) hfaw))
       go_meet
       exact⟨_,z7,s7,by omega,J12,(λe=>absurd (show (3:Int)=1 from e) (by decide)),(λe=>absurd (show (3:Int)=2 from e) (by decide)),Vb (Vb (VV ⟨rfl,rfl,rfl,QV hS,hm7,rfl⟩))⟩
     ·
      by_cases h9:hw=9
      ·
       subst h9;have J6:=J5.wk 4;have c0:=J5.m.r3.q.c0;have f0:=J5.m.r3.f 0 (by omega);have c6:=J6.m.r3.q.c6;have f6:=J6.m.r3.f 6 (by omega);have J7:=J6.w6 aw nw cw (hiw.ka J6.ka hfaw) (by omega) hfaw;go_wp2;go_meet
       exact⟨_,z4,s4,by omega,J7,(λe=>absurd (show (4:Int)=1 from e) (by decide)),(λe=>absurd (show (4:Int)=2 from e) (by decide)),Vb (Vb (Vb (VV ⟨rfl,rfl,rfl,rfl,rfl,rfl⟩)))⟩
      ·
       as_aux_lemma=>
        have h9i:¬(hw:Int)=9:=by omega
        have J6:=J5.wk 5;have c0:=J5.m.r3.q.c0;have f0:=J5.m.r3.f 0 (by omega);obtain⟨i0,hi,hi0,hi1,hi2⟩:=info_parts Tryz.info31s;have HI:Hid (Tryz.prog.info? 31=ς i0):=hi;clear hi;go_wp2_with (go_at_call 39;refine(Az g B ca cn cc z4 s4 _ J6.m.cu (by omega) _ (by omega)).mono ?_;rintro e w6 ⟨r6,z6,s6,rfl,hr60,hr61,-,hz6,hCp,hGp⟩;obtain⟨nn,rfl⟩:∃ k:Nat,r6=k:=⟨r6.toNat,by omega⟩;have J7:=J6.call hGp hCp)
        go_loopw [11,12] (λi _ wr=>∃ (j zz ss:Nat) (a:Option Addr) (c:Nat) (xs:List VN),(j:Int)<=1+nn/\i=ι κ j/\zz<=z+110+80 * j/\Mj g B ca cn cc w U0 b3 { p0 5 tb with a7:=a,n7:=j,c7:=c } zz ss wr/\wr.ownsRow U0.heap.size 31 1 (σ a j c) j xs/\Osl b3 wr (Value.ownBlock (σ a j c)) xs) (λi _ _=>(1+nn) - (VQ i).toNat)
        case atStart=>exact⟨0,z6,s6,ν,0,[],by omega,rfl,by omega,J7,World.ownsRow_nil _ _ _ _,Osl.nil _ _ _⟩
        case round=>
         obtain⟨j,zz,ss,a,c,xs,hj,rfl,hzz,J8,hO,hOs⟩:=hrel;have hb3:g<U0.heap.size:=by omega
         have e15:nb 3=15:=rfl;have e75:pb 3=75:=rfl;by_cases hjl:(j:Int)<1+nn
         ·
          go_wp2_with (go_at_call 39;refine(Az g B ca cn cc zz ss _ J8.m.cu (by omega) _ (by omega)).mono ?_;rintro e w8 ⟨r8,z8,s8,rfl,hr80,hr81,-,hz8,hCq,hGq⟩;have J9:=J8.call hGq hCq)
          have J9d:=J9.dr;have c7:w8.drew.cell? ⟨b3,7,ν⟩=ς (σ a j c):=J9d.m.r3.q.c7;have hs9:=J9d.m.gr.size;have l9:=J9d.m.lt3;have hO8:=(AS hO hGq hb3).drew;have hOs8:=(hOs.gr hGq (Vb (λk e=>by have e:g=k:=VF e;omega))).gr (gd w8 (ς g)) (Vb (λk e=>by have e:g=k:=VF e;omega));clear hO hOs J8 J9 hGq hCq;refine VH (S:=λ_=>True) (by kernel_rfl) trivial (λ_=>?_);refine tk 0 (v:=ψ (ς ⟨b3,7,ν⟩)) trivial ?_;simp only [zS]
          refine tk 2 (v:=ψ (ς ⟨g,0,ν⟩)) trivial ?_;simp only [zS]
          refine tk 3 (v:=σ (ς ⟨gc,0,ν⟩) n n) trivial ?_;simp only [zS]
          refine tk 4 (v:=ι κ (1+r8)) trivial ?_;simp only [zS]
          refine wpAnyH_ready (rs:=[1,5]) (by kernel_rfl) (by simp) ?_;refine AllReadyH.cons (o:=Sj) rfl (λK hK=>?_) (AllReadyH.cons (o:=UQ) rfl (λK hK=>?_) AllReadyH.nil)
          ·
           go_simp;refine hK.out _ _ trivial (λ_=>?_);clear hK K;refine rd 5 (λK hK=>?_);go_simp;refine(Dg g B ca cn cc 3 (by omega) 0 z8 s8 (ς ⟨gc,0,ν⟩) n n (1+r8) _ (by omega) J9d.m.cu (by omega) (by omega) (hco5.ka J9d.ka hfc) hgg hn1 (by omega)).mono ?_;rintro e w9 ⟨m9,g9,cap9,z9,s9,xs9,rfl,hm9,hm9',hI9,hO9,hz9,hC9,hG9⟩;have J10:=J9d.call hG9 hC9;have hg9:=A3 hO9;have hl9:=(hO9.lt g9 rfl).2;have hO10:=(AS hO8 hG9 hb3).alloc (γ #[σ (ς ⟨g9,0,ν⟩) m9 cap9] 31);have J11:=J10.al (γ #[σ (ς ⟨g9,0,ν⟩) m9 cap9] 31);have hOs11:=((hOs8.gr hG9 (Vb (λk e=>by have e:g=k:=VF e;omega))).snoc (c:=cap9) (by omega) (λe=>by have:=(hO8.lt g9 e.symm).2;omega) hl9 (HU hO9 hI9 (by omega) (by omega)) (by omega)).gr (AU w9 (γ #[σ (ς ⟨g9,0,ν⟩) m9 cap9] 31) ν) (Vb (λk e=>by cases e));have l10:=J10.m.lt3;have sz10:=J10.sz;have hs10:=J10.m.gr.size;refine hK.out _ _ trivial (λ_=>?_);clear hK K;refine rd 6 (λK hK=>?_);go_simp;refine hK.out _ _ trivial (λ_=>?_);clear hK K;refine rd 7 (λK hK=>?_);rw [if_pos (by kernel_rfl)];refine wp_append_lies _ _ _ _ rfl U0.heap.size 31 i0 (σ ν 0 0) 1 24 Tryz.underlying32 HI.out hi0 hi1 hi2 rfl (by omega) (σ a j c) j xs rfl hO10 ⟨w9.heap.size,0,ν⟩ 1 1 [σ (ς ⟨g9,0,ν⟩) m9 cap9] rfl rfl (VI (η w9 _)) (Bt _ rfl) (by omega) (by unfold maxLen;omega) (by omega) (by simp;omega) _ rfl ?_;intro g11 cap11 w11 hO11 hgr11 hat11 hlt11;refine hK.out _ _ trivial (λ_=>?_);clear hK K;simp only [zS]
           have hr11:∀ k,Value.ownBlock (σ a j c)=ς k->U0.heap.size<=k:=λk e=>(hO10.lt k e).1;have W11:=J11.w8 hgr11 hr11 hl6;have c7'':=W11.q.c7;have f7:=W11.f 7 (by omega);have hOsl:=hOs11.grow hgr11 g11 hat11;have J12:=J11.app hgr11 hr11 hl6 (W11.s7 (ς ⟨g11,0,ν⟩) (j+1) cap11) ((QM b3 w11 5 tb htb).w7 _ _ _ (K5 hO11 hOsl hl6) (by omega));refine tk 8 (v:=ψ (ς ⟨b3,7,ν⟩)) trivial ?_;simp only [zS]
           refine rd 9 (λK hK=>?_);go_simp;refine hK.out _ _ trivial (λ_=>?_);clear hK K;refine VP (by kernel_rfl) ?_ _;go_wp2;go_roundw
           case rel=>exact⟨j+1,z9,s9,ς ⟨g11,0,ν⟩,cap11,_,by omega,by go_num,by omega,J12,AS hO11 (Ai w11 b3 7 _) hl6,hOsl.gr (Ai w11 b3 7 _) (Vb (λk e=>by have e:b3=k:=VF e;omega))⟩
           case measure=>simp [VQ];omega
          ·
           go_simp;refine(Dg g B ca cn cc 3 (by omega) 0 z8 s8 (ς ⟨gc,0,ν⟩) n n (1+r8) _ (by omega) J9d.m.cu (by omega) (by omega) (hco5.ka J9d.ka hfc) hgg hn1 (by omega)).mono ?_;rintro e w9 ⟨m9,g9,cap9,z9,s9,xs9,rfl,hm9,hm9',hI9,hO9,hz9,hC9,hG9⟩;have J10:=J9d.call hG9 hC9;have hg9:=A3 hO9;have hl9:=(hO9.lt g9 rfl).2;have hO10:=(AS hO8 hG9 hb3).alloc (γ #[σ (ς ⟨g9,0,ν⟩) m9 cap9] 31);have J11:=J10.al (γ #[σ (ς ⟨g9,0,ν⟩) m9 cap9] 31);have hOs11:=((hOs8.gr hG9 (Vb (λk e=>by have e:g=k:=VF e;omega))).snoc (c:=cap9) (by omega) (λe=>by have:=(hO8.lt g9 e.symm).2;omega) hl9 (HU hO9 hI9 (by omega) (by omega)) (by omega)).gr (AU w9 (γ #[σ (ς ⟨g9,0,ν⟩) m9 cap9] 31) ν) (Vb (λk e=>by cases e));have l10:=J10.m.lt3;have sz10:=J10.sz;have hs10:=J10.m.gr.size;refine hK.out _ _ trivial (λ_=>?_);clear hK K;have c71:w9.cell? ⟨b3,7,ν⟩=ς (σ a j c):=J10.m.r3.q.c7;refine wpAnyH_ready (rs:=[1,6]) (by kernel_rfl) (by simp) ?_;refine AllReadyH.cons (o:=Sj) rfl (λK hK=>?_) (AllReadyH.cons (o:=UP) rfl (λK hK=>?_) AllReadyH.nil)
           ·
            go_simp;refine hK.out _ _ trivial (λ_=>?_);clear hK K;refine rd 6 (λK hK=>?_);go_simp;refine hK.out _ _ trivial (λ_=>?_);clear hK K;refine rd 7 (λK hK=>?_);rw [if_pos (by kernel_rfl)];refine wp_append_lies _ _ _ _ rfl U0.heap.size 31 i0 (σ ν 0 0) 1 24 Tryz.underlying32 HI.out hi0 hi1 hi2 rfl (by omega) (σ a j c) j xs rfl hO10 ⟨w9.heap.size,0,ν⟩ 1 1 [σ (ς ⟨g9,0,ν⟩) m9 cap9] rfl rfl (VI (η w9 _)) (Bt _ rfl) (by omega) (by unfold maxLen;omega) (by omega) (by simp;omega) _ rfl ?_;intro g11 cap11 w11 hO11 hgr11 hat11 hlt11;refine hK.out _ _ trivial (λ_=>?_);clear hK K;simp only [zS]
            have hr11:∀ k,Value.ownBlock (σ a j c)=ς k->U0.heap.size<=k:=λk e=>(hO10.lt k e).1;have W11:=J11.w8 hgr11 hr11 hl6;have c7'':=W11.q.c7;have f7:=W11.f 7 (by omega);have hOsl:=hOs11.grow hgr11 g11 hat11;have J12:=J11.app hgr11 hr11 hl6 (W11.s7 (ς ⟨g11,0,ν⟩) (j+1) cap11) ((QM b3 w11 5 tb htb).w7 _ _ _ (K5 hO11 hOsl hl6) (by omega));refine tk 8 (v:=ψ (ς ⟨b3,7,ν⟩)) trivial ?_;simp only [zS]
            refine rd 9 (λK hK=>?_);go_simp;refine hK.out _ _ trivial (λ_=>?_);clear hK K;refine VP (by kernel_rfl) ?_ _;go_wp2;go_roundw
            case rel=>exact⟨j+1,z9,s9,ς ⟨g11,0,ν⟩,cap11,_,by omega,by go_num,by omega,J12,AS hO11 (Ai w11 b3 7 _) hl6,hOsl.gr (Ai w11 b3 7 _) (Vb (λk e=>by have e:b3=k:=VF e;omega))⟩
            case measure=>simp [VQ];omega
           ·
            go_simp;refine hK.out _ _ trivial (λ_=>?_);clear hK K;have c72:(w9.alloc (γ #[σ (ς ⟨g9,0,ν⟩) m9 cap9] 31)).cell? ⟨b3,7,ν⟩=ς (σ a j c):=J11.m.r3.q.c7;refine rd 1 (λK hK=>?_);go_simp;refine hK.out _ _ trivial (λ_=>?_);clear hK K;refine rd 7 (λK hK=>?_);rw [if_pos (by kernel_rfl)];refine wp_append_lies _ _ _ _ rfl U0.heap.size 31 i0 (σ ν 0 0) 1 24 Tryz.underlying32 HI.out hi0 hi1 hi2 rfl (by omega) (σ a j c) j xs rfl hO10 ⟨w9.heap.size,0,ν⟩ 1 1 [σ (ς ⟨g9,0,ν⟩) m9 cap9] rfl rfl (VI (η w9 _)) (Bt _ rfl) (by omega) (by unfold maxLen;omega) (by omega) (by simp;omega) _ rfl ?_;intro g11 cap11 w11 hO11 hgr11 hat11 hlt11;refine hK.out _ _ trivial (λ_=>?_);clear hK K;simp only [zS]
            have hr11:∀ k,Value.ownBlock (σ a j c)=ς k->U0.heap.size<=k:=λk e=>(hO10.lt k e).1;have W11:=J11.w8 hgr11 hr11 hl6;have c7'':=W11.q.c7;have f7:=W11.f 7 (by omega);have hOsl:=hOs11.grow hgr11 g11 hat11;have J12:=J11.app hgr11 hr11 hl6 (W11.s7 (ς ⟨g11,0,ν⟩) (j+1) cap11) ((QM b3 w11 5 tb htb).w7 _ _ _ (K5 hO11 hOsl hl6) (by omega));refine tk 8 (v:=ψ (ς ⟨b3,7,ν⟩)) trivial ?_;simp only [zS]
            refine rd 9 (λK hK=>?_);go_simp;refine hK.out _ _ trivial (λ_=>?_);clear hK K;refine VP (by kernel_rfl) ?_ _;go_wp2;go_roundw
            case rel=>exact⟨j+1,z9,s9,ς ⟨g11,0,ν⟩,cap11,_,by omega,by go_num,by omega,J12,AS hO11 (Ai w11 b3 7 _) hl6,hOsl.gr (Ai w11 b3 7 _) (Vb (λk e=>by have e:b3=k:=VF e;omega))⟩
            case measure=>simp [VQ];omega
         ·
          have c6:=J8.m.r3.q.c6;have f6:=J8.m.r3.f 6 (by omega);have J13:=J8.w6 aw nw cw (hiw.ka J8.ka hfaw) (by omega) hfaw;go_wp2;go_meet
          exact⟨_,zz,ss,by omega,J13,(λe=>absurd (show (5:Int)=1 from e) (by decide)),(λe=>absurd (show (5:Int)=2 from e) (by decide)),Vb (Vb (Vb (Vb ⟨rfl,rfl,rfl,rfl,rfl,by show 1<=j;omega⟩)))⟩
   case rest=>
    obtain⟨p,z5,s5,hz5,J0,hk1,hk2,hsh⟩:=hcut;have HSH:Hid (M8 p):=hsh;clear hsh;clear J5 M5 hiw;have hl7:=J0.m.lt3;go_upto_if 117 with (go_at_call 39;refine(Az g B ca cn cc z5 s5 _ J0.m.cu (by omega) _ (by omega)).mono ?_;rintro e w6 ⟨r6,z6,s6,rfl,hr60,hr61,-,hz6,hCp,hGp⟩;have J1:=J0.call hGp hCp)
    have hl8:=J1.m.lt3;have hs8:=J1.m.gr.size;have c0:=J1.m.r3.q.c0;go_cut [13,128,141,162] (λ_ _ _ _ wx=>∃ (p':SP) (z7 s7:Nat),z7<=z+700/\Mk8 g B ca cn cc w w.heap.size b3 p' z7 s7 wx/\M8 p')
    case first=>
     by_cases h5:r6=5
     ·
      subst h5;by_cases e1:p.k=1
      ·
       as_aux_lemma=>
        obtain⟨h1n,h3n⟩:=hk1 e1;obtain⟨i0,hi,hi0,hi1,hi2⟩:=info_parts Tryz.info58c;have HI:Hid (Tryz.prog.info? 58=ς i0):=hi;clear hi;obtain⟨b,off,m,S,ea,d0,d1,hS⟩:=J1.m.sf.co 0 (by omega);have hbf:b3<b:=J1.m.sf.f2 b off ea;have hpos:(0:Int)<(p.n2:Int):=by omega
        have hne0:¬p.n2=0:=by omega
        rw [Nat.zero_mul,Vf] at d0 d1;go_wp2;obtain⟨Y,hY⟩:∃ Y,w6.drew=Y:=⟨_,rfl⟩;have K0:Mj g B ca cn cc w Y b3 p z6 s6 Y:=⟨by rw [←hY];exact J1.dr.m,λ_ _ _ h=>h,hB,hlt,by omega,VD _⟩;have d0':Y.cell? ⟨b,off,ν⟩=ς (τ S):=by rw [←hY];exact d0
        have d1':Y.cell? ⟨b,off+1,ν⟩=ς (ι κ m):=by rw [←hY];exact d1
        have hlY:=K0.m.lt3;have hsY:=K0.m.gr.size;have hbY:=World.block_lt_of_cell? _ _ d0';have mkS:∀ {X:ο},Mj g B ca cn cc w Y b3 p z6 s6 X->X.cell? ⟨b3,2,ν⟩=ς (σ (ς ⟨b,off,ν⟩) p.n2 p.c2)/\X.cell? ⟨b,off,ν⟩=ς (τ S)/\X.cell? ⟨b,off+1,ν⟩=ς (ι κ m):=λK=>⟨by rw [←ea];exact K.m.r3.q.c2,K.ka _ _ hbf d0',K.ka _ _ hbf d1'⟩;obtain⟨news,hN,hnews⟩:=MA (w:=Y) (b:=b) (off:=off) p.n2 (by rw [←ea];exact K0.m.sf.co);have hkn:∀ {X:ο},Mj g B ca cn cc w Y b3 p z6 s6 X->∀ j u,news[j]?=ς u->X.cell? ((⟨b,off,ν⟩:Addr).add j)=ς u:=λK j u hu=>by rw [Ul];exact K.ka _ _ hbf (hnews j u hu)
        have hNl:=hN.1;have S0:=mkS K0;refine AnyT.begin (λw'=>w'.cell? ⟨b3,2,ν⟩=ς (σ (ς ⟨b,off,ν⟩) p.n2 p.c2)/\w'.cell? ⟨b,off,ν⟩=ς (τ S)/\w'.cell? ⟨b,off+1,ν⟩=ς (ι κ m)) 11 (by kernel_rfl) ?_;rw [hY];refine AnyT.take (i:=1) (oi:=(⟨ς 131,.fieldAddr 34 (δ 3) 2,0,"l5_replay.go:510",#[],ν⟩:Oper)) (ot:=EZ) (v:=ψ (ς ⟨b3,2,ν⟩)) rfl (by decide) rfl (by kernel_rfl) (by kernel_rfl) (by kernel_rfl) (by kernel_rfl) (λ_ _ _ h=>h) (VV ⟨by rfl,λw jS=>by obtain⟨hs0,hs1,hs2⟩:=jS;go_simp⟩) S0 ?_;simp only [zS]
        refine AnyT.take (i:=2) (oi:=(⟨ς 132,.load 29 (δ 131),29,"l5_replay.go:510",#[⟨1,φ⟩],ν⟩:Oper)) (ot:=EZ) (v:=σ (ς ⟨b,off,ν⟩) p.n2 p.c2) rfl (by decide) rfl (by kernel_rfl) (by kernel_rfl) (by kernel_rfl) (by kernel_rfl) (λ_ _ _ h=>h) (VV ⟨by rfl,λw jS=>by obtain⟨hs0,hs1,hs2⟩:=jS;go_simp⟩) S0 ?_;simp only [zS]
        refine AnyT.take (i:=4) (oi:=(⟨ς 134,.fieldAddr 34 (δ 3) 2,0,"l5_replay.go:510",#[],ν⟩:Oper)) (ot:=EZ) (v:=ψ (ς ⟨b3,2,ν⟩)) rfl (by decide) rfl (by kernel_rfl) (by kernel_rfl) (by kernel_rfl) (by kernel_rfl) (λ_ _ _ h=>h) (VV ⟨by rfl,λw jS=>by obtain⟨hs0,hs1,hs2⟩:=jS;go_simp⟩) S0 ?_;simp only [zS]
        refine AnyT.take (i:=5) (oi:=(⟨ς 135,.load 29 (δ 134),29,"l5_replay.go:510",#[⟨4,φ⟩],ν⟩:Oper)) (ot:=EZ) (v:=σ (ς ⟨b,off,ν⟩) p.n2 p.c2) rfl (by decide) rfl (by kernel_rfl) (by kernel_rfl) (by kernel_rfl) (by kernel_rfl) (λ_ _ _ h=>h) (VV ⟨by rfl,λw jS=>by obtain⟨hs0,hs1,hs2⟩:=jS;go_simp⟩) S0 ?_;simp only [zS]
        refine AnyT.take (i:=6) (oi:=(⟨ς 136,.indexAddr 29 (δ 135) (.const (ι κ 0)),0,"l5_replay.go:510",#[⟨5,φ⟩],ν⟩:Oper)) (ot:=EZ) (v:=ψ (ς ⟨b,off,ν⟩)) rfl (by decide) rfl (by kernel_rfl) (by kernel_rfl) (by kernel_rfl) (by kernel_rfl) (λ_ _ _ h=>h) (VV ⟨by rfl,λw jS=>by obtain⟨hs0,hs1,hs2⟩:=jS;go_simp⟩) S0 ?_;simp only [zS]
        refine AnyT.take (i:=7) (oi:=(⟨ς 137,.load 58 (δ 136),58,"l5_replay.go:510",#[⟨6,φ⟩],ν⟩:Oper)) (ot:=EZ) (v:=χ #[τ S,ι κ m]) rfl (by decide) rfl (by kernel_rfl) (by kernel_rfl) (by kernel_rfl) (by kernel_rfl) (λ_ _ _ h=>h) (VV ⟨by rfl,λw jS=>by obtain⟨hs0,hs1,hs2⟩:=jS;go_simp⟩) S0 ?_;simp only [zS]
        refine AnyT.ready (rs:=[0,8]) (by kernel_rfl) (by simp) ?_;refine(ReadyT.cons (o:=QU) rfl (λK hK=>?_) (ReadyT.cons (o:=Nl) rfl (λK hK=>?_) ReadyT.nil))
        ·
         have K1:=K0.al (γ #[] 58);have O1:(Y.alloc (γ #[] 58)).ownsRow Y.heap.size 58 2 (σ (ς ⟨Y.heap.size,0,ν⟩) 0 0) 0 []:=World.ownsRow_lit Y #[] 0 (VD _) (by simp [maxLen]) rfl;go_simp;refine hK.out _ _ (λ_=>(mkS K1)) ?_;clear hK K;refine AnyT.ready (rs:=[3,8]) (by kernel_rfl) (by simp) ?_;refine(ReadyT.cons (o:=Nk) rfl (λK hK=>?_) (ReadyT.cons (o:=Nl) rfl (λK hK=>?_) ReadyT.nil))
         ·
          rw [if_pos (by kernel_rfl)];refine wp_append_lies _ _ _ _ rfl Y.heap.size 58 i0 (χ #[τ ⟨#[]⟩,ι κ 0]) 2 24 Tryz.underlying29 HI.out hi0 hi1 hi2 rfl (by omega) (σ (ς ⟨Y.heap.size,0,ν⟩) 0 0) 0 [] rfl O1 ⟨b,off,ν⟩ p.n2 p.c2 news rfl hNl (hkn K1) hN.cells1 (by omega) (by unfold maxLen;omega) (by omega) (K1.sz) _ rfl ?_;intro g3 cap3 X3 hO3 hgr3 hat3 hlt3;rw [VM,Vd] at hO3;rw [VM];have hr3:∀ k,Value.ownBlock (σ (ς ⟨Y.heap.size,0,ν⟩) 0 0)=ς k->Y.heap.size<=k:=λk e=>by have e:Y.heap.size=k:=VF e;omega
          have K3:=K1.rowq K0.m.sf hgr3 hr3 hlY;refine hK.out _ _ (λ_=>(mkS K3)) ?_;clear hK K;simp only [zS]
          have K4:=K3.al (γ #[τ S,ι κ m] 58);have x0:(X3.alloc (γ #[τ S,ι κ m] 58)).cell? ⟨X3.heap.size,0,ν⟩=ς (τ S):=(ε _ _ 0 _ _ _ (η X3 _)).trans rfl;have x1:(X3.alloc (γ #[τ S,ι κ m] 58)).cell? ⟨X3.heap.size,1,ν⟩=ς (ι κ m):=(ε _ _ 1 _ _ _ (η X3 _)).trans rfl;refine AnyT.ready (rs:=[8]) (by kernel_rfl) (by simp) ?_;refine(ReadyT.cons (o:=Nl) rfl (λK hK=>?_) ReadyT.nil);go_simp;refine hK.out _ _ (λ_=>(mkS K4)) ?_;clear hK K;refine AnyT.ready (rs:=[9]) (by kernel_rfl) (by simp) ?_;refine(ReadyT.cons (o:=Nj) rfl (λK hK=>?_) ReadyT.nil);rw [if_pos (by kernel_rfl)];refine wp_append_lies _ _ _ _ rfl Y.heap.size 58 i0 (χ #[τ ⟨#[]⟩,ι κ 0]) 2 24 Tryz.underlying29 HI.out hi0 hi1 hi2 rfl (by omega) (σ (ς ⟨g3,0,ν⟩) p.n2 cap3) p.n2 news rfl (hO3.alloc _) ⟨X3.heap.size,0,ν⟩ 1 1 [τ S,ι κ m] rfl rfl (Nw x0 x1) (Cls.one _ _ hS).cells1 (by omega) (by unfold maxLen;omega) (by omega) (VX (VD _) K4.sz) _ rfl ?_;intro g9 cap9 X9 hO9 hgr9 hat9 hlt9;have hg3:=A3 hO3;have hr9:∀ k,Value.ownBlock (σ (ς ⟨g3,0,ν⟩) p.n2 cap3)=ς k->Y.heap.size<=k:=λk e=>by have e:g3=k:=VF e;omega
          have K9:=K4.rowq K0.m.sf hgr9 hr9 hlY;refine hK.out _ _ (λ_=>(mkS K9)) ?_;clear hK K;simp only [zS]
          have hg9:=A3 hO9;have c2:=K9.m.r3.q.c2;have f2:=K9.m.r3.f 2 (by omega);have K10:=K9.w2 (ς ⟨g9,0,ν⟩) (p.n2+1) cap9 (LM hO9 (hN.app (Cls.one m S hS))) (by omega) (BG (by omega));refine AnyT.take (i:=10) (oi:=Ni) (ot:=EZ) (v:=ψ (ς ⟨b3,2,ν⟩)) rfl (by decide) rfl (by kernel_rfl) (by kernel_rfl) (by kernel_rfl) (by kernel_rfl) (λ_ _ _ h=>h) (VV ⟨by rfl,λw jS=>by obtain⟨hs0,hs1,hs2⟩:=jS;go_simp⟩) (mkS K9) ?_;simp only [zS]
          refine AnyT.ready (rs:=[11]) (by kernel_rfl) (by simp) ?_;refine(ReadyT.cons (o:=EZ) rfl (λK hK=>?_) ReadyT.nil);go_simp;refine hK.out _ _ (λe=>absurd rfl e) ?_;clear hK K;refine AnyT.done (by kernel_rfl) ?_ _;go_wp2;go_meet
          exact⟨_,z6,s6,by omega,K10.m,Qs HSH.out e1 h3n⟩
         ·
          have K2:=K1.al (γ #[τ S,ι κ m] 58);have hY1:(Y.alloc (γ #[] 58)).heap.size=Y.heap.size+1:=by simp
          have y0:((Y.alloc (γ #[] 58)).alloc (γ #[τ S,ι κ m] 58)).cell? ⟨Y.heap.size+1,0,ν⟩=ς (τ S):=by rw [←hY1];exact(ε _ _ 0 _ _ _ (η (Y.alloc (γ #[] 58)) _)).trans rfl
          have y1:((Y.alloc (γ #[] 58)).alloc (γ #[τ S,ι κ m] 58)).cell? ⟨Y.heap.size+1,1,ν⟩=ς (ι κ m):=by rw [←hY1];exact(ε _ _ 1 _ _ _ (η (Y.alloc (γ #[] 58)) _)).trans rfl
          go_simp;refine hK.out _ _ (λ_=>(mkS K2)) ?_;clear hK K;refine AnyT.ready (rs:=[3]) (by kernel_rfl) (by simp) ?_;refine(ReadyT.cons (o:=Nk) rfl (λK hK=>?_) ReadyT.nil);rw [if_pos (by kernel_rfl)];refine wp_append_lies _ _ _ _ rfl Y.heap.size 58 i0 (χ #[τ ⟨#[]⟩,ι κ 0]) 2 24 Tryz.underlying29 HI.out hi0 hi1 hi2 rfl (by omega) (σ (ς ⟨Y.heap.size,0,ν⟩) 0 0) 0 [] rfl (O1.alloc _) ⟨b,off,ν⟩ p.n2 p.c2 news rfl hNl (hkn K2) hN.cells1 (by omega) (by unfold maxLen;omega) (by omega) (K2.sz) _ rfl ?_;intro g3 cap3 X3 hO3 hgr3 hat3 hlt3;rw [VM,Vd] at hO3;rw [VM];have hr3:∀ k,Value.ownBlock (σ (ς ⟨Y.heap.size,0,ν⟩) 0 0)=ς k->Y.heap.size<=k:=λk e=>by have e:Y.heap.size=k:=VF e;omega
          have K3:=K2.rowq K0.m.sf hgr3 hr3 hlY;refine hK.out _ _ (λ_=>(mkS K3)) ?_;clear hK K;simp only [zS]
          have x0:=Aw hgr3 y0 (λe=>by have e:Y.heap.size+1=Y.heap.size:=VF e;omega);have x1:=Aw hgr3 y1 (λe=>by have e:Y.heap.size+1=Y.heap.size:=VF e;omega);refine AnyT.ready (rs:=[9]) (by kernel_rfl) (by simp) ?_;refine(ReadyT.cons (o:=Nj) rfl (λK hK=>?_) ReadyT.nil);rw [if_pos (by kernel_rfl)];refine wp_append_lies _ _ _ _ rfl Y.heap.size 58 i0 (χ #[τ ⟨#[]⟩,ι κ 0]) 2 24 Tryz.underlying29 HI.out hi0 hi1 hi2 rfl (by omega) (σ (ς ⟨g3,0,ν⟩) p.n2 cap3) p.n2 news rfl hO3 ⟨Y.heap.size+1,0,ν⟩ 1 1 [τ S,ι κ m] rfl rfl (Nw x0 x1) (Cls.one _ _ hS).cells1 (by omega) (by unfold maxLen;omega) (by omega) (VX (VD _) K3.sz) _ rfl ?_;intro g9 cap9 X9 hO9 hgr9 hat9 hlt9;have hg3:=A3 hO3;have hr9:∀ k,Value.ownBlock (σ (ς ⟨g3,0,ν⟩) p.n2 cap3)=ς k->Y.heap.size<=k:=λk e=>by have e:g3=k:=VF e;omega
          have K9:=K3.rowq K0.m.sf hgr9 hr9 hlY;refine hK.out _ _ (λ_=>(mkS K9)) ?_;clear hK K;simp only [zS]
          have hg9:=A3 hO9;have c2:=K9.m.r3.q.c2;have f2:=K9.m.r3.f 2 (by omega);have K10:=K9.w2 (ς ⟨g9,0,ν⟩) (p.n2+1) cap9 (LM hO9 (hN.app (Cls.one m S hS))) (by omega) (BG (by omega));refine AnyT.take (i:=10) (oi:=Ni) (ot:=EZ) (v:=ψ (ς ⟨b3,2,ν⟩)) rfl (by decide) rfl (by kernel_rfl) (by kernel_rfl) (by kernel_rfl) (by kernel_rfl) (λ_ _ _ h=>h) (VV ⟨by rfl,λw jS=>by obtain⟨hs0,hs1,hs2⟩:=jS;go_simp⟩) (mkS K9) ?_;simp only [zS]
          refine AnyT.ready (rs:=[11]) (by kernel_rfl) (by simp) ?_;refine(ReadyT.cons (o:=EZ) rfl (λK hK=>?_) ReadyT.nil);go_simp;refine hK.out _ _ (λe=>absurd rfl e) ?_;clear hK K;refine AnyT.done (by kernel_rfl) ?_ _;go_wp2;go_meet
          exact⟨_,z6,s6,by omega,K10.m,Qs HSH.out e1 h3n⟩
        ·
         have K1:=K0.al (γ #[τ S,ι κ m] 58);have hY1:(Y.alloc (γ #[τ S,ι κ m] 58)).heap.size=Y.heap.size+1:=by simp
         have y0:(Y.alloc (γ #[τ S,ι κ m] 58)).cell? ⟨Y.heap.size,0,ν⟩=ς (τ S):=(ε _ _ 0 _ _ _ (η Y _)).trans rfl;have y1:(Y.alloc (γ #[τ S,ι κ m] 58)).cell? ⟨Y.heap.size,1,ν⟩=ς (ι κ m):=(ε _ _ 1 _ _ _ (η Y _)).trans rfl;go_simp;refine hK.out _ _ (λ_=>(mkS K1)) ?_;clear hK K;have K2:=K1.al (γ #[] 58);have O1:((Y.alloc (γ #[τ S,ι κ m] 58)).alloc (γ #[] 58)).ownsRow Y.heap.size 58 2 (σ (ς ⟨Y.heap.size+1,0,ν⟩) 0 0) 0 []:=by rw [←hY1];exact World.ownsRow_lit (Y.alloc (γ #[τ S,ι κ m] 58)) #[] 0 (by omega) (by simp [maxLen]) rfl
         refine AnyT.ready (rs:=[0]) (by kernel_rfl) (by simp) ?_;refine(ReadyT.cons (o:=QU) rfl (λK hK=>?_) ReadyT.nil);go_simp;refine hK.out _ _ (λ_=>(mkS K2)) ?_;clear hK K;refine AnyT.ready (rs:=[3]) (by kernel_rfl) (by simp) ?_;refine(ReadyT.cons (o:=Nk) rfl (λK hK=>?_) ReadyT.nil);rw [if_pos (by kernel_rfl)];refine wp_append_lies _ _ _ _ rfl Y.heap.size 58 i0 (χ #[τ ⟨#[]⟩,ι κ 0]) 2 24 Tryz.underlying29 HI.out hi0 hi1 hi2 rfl (by omega) (σ (ς ⟨Y.heap.size+1,0,ν⟩) 0 0) 0 [] rfl O1 ⟨b,off,ν⟩ p.n2 p.c2 news rfl hNl (hkn K2) hN.cells1 (by omega) (by unfold maxLen;omega) (by omega) (K2.sz) _ rfl ?_;intro g3 cap3 X3 hO3 hgr3 hat3 hlt3;rw [VM,Vd] at hO3;rw [VM];have hr3:∀ k,Value.ownBlock (σ (ς ⟨Y.heap.size+1,0,ν⟩) 0 0)=ς k->Y.heap.size<=k:=λk e=>by have e:Y.heap.size+1=k:=VF e;omega
         have K3:=K2.rowq K0.m.sf hgr3 hr3 hlY;refine hK.out _ _ (λ_=>(mkS K3)) ?_;clear hK K;simp only [zS]
         have x0:=Aw hgr3 (Aw (AU _ (γ #[] 58) ν) y0 (λe=>by cases e)) (λe=>by have e:Y.heap.size=Y.heap.size+1:=VF e;omega);have x1:=Aw hgr3 (Aw (AU _ (γ #[] 58) ν) y1 (λe=>by cases e)) (λe=>by have e:Y.heap.size=Y.heap.size+1:=VF e;omega);refine AnyT.ready (rs:=[9]) (by kernel_rfl) (by simp) ?_;refine(ReadyT.cons (o:=Nj) rfl (λK hK=>?_) ReadyT.nil);rw [if_pos (by kernel_rfl)];refine wp_append_lies _ _ _ _ rfl Y.heap.size 58 i0 (χ #[τ ⟨#[]⟩,ι κ 0]) 2 24 Tryz.underlying29 HI.out hi0 hi1 hi2 rfl (by omega) (σ (ς ⟨g3,0,ν⟩) p.n2 cap3) p.n2 news rfl hO3 ⟨Y.heap.size,0,ν⟩ 1 1 [τ S,ι κ m] rfl rfl (Nw x0 x1) (Cls.one _ _ hS).cells1 (by omega) (by unfold maxLen;omega) (by omega) (VX (VD _) K3.sz) _ rfl ?_;intro g9 cap9 X9 hO9 hgr9 hat9 hlt9;have hg3:=A3 hO3;have hr9:∀ k,Value.ownBlock (σ (ς ⟨g3,0,ν⟩) p.n2 cap3)=ς k->Y.heap.size<=k:=λk e=>by have e:g3=k:=VF e;omega
         have K9:=K3.rowq K0.m.sf hgr9 hr9 hlY;refine hK.out _ _ (λ_=>(mkS K9)) ?_;clear hK K;simp only [zS]
         have hg9:=A3 hO9;have c2:=K9.m.r3.q.c2;have f2:=K9.m.r3.f 2 (by omega);have K10:=K9.w2 (ς ⟨g9,0,ν⟩) (p.n2+1) cap9 (LM hO9 (hN.app (Cls.one m S hS))) (by omega) (BG (by omega));refine AnyT.take (i:=10) (oi:=Ni) (ot:=EZ) (v:=ψ (ς ⟨b3,2,ν⟩)) rfl (by decide) rfl (by kernel_rfl) (by kernel_rfl) (by kernel_rfl) (by kernel_rfl) (λ_ _ _ h=>h) (VV ⟨by rfl,λw jS=>by obtain⟨hs0,hs1,hs2⟩:=jS;go_simp⟩) (mkS K9) ?_;simp only [zS]
         refine AnyT.ready (rs:=[11]) (by kernel_rfl) (by simp) ?_;refine(ReadyT.cons (o:=EZ) rfl (λK hK=>?_) ReadyT.nil);go_simp;refine hK.out _ _ (λe=>absurd rfl e) ?_;clear hK K;refine AnyT.done (by kernel_rfl) ?_ _;go_wp2;go_meet
         exact⟨_,z6,s6,by omega,K10.m,Qs HSH.out e1 h3n⟩
      ·
       by_cases e2:p.k=2
       ·
        as_aux_lemma=>
         obtain⟨gv,nv,cv,xsv,ep,hnv1,hnv3,hOv,hIv⟩:=hk2 e2;subst ep;clear hk1 hk2;have hOv6:=AS hOv hGp (by omega);have hgv:=A3 hOv;have hcv:nv<=cv:=No hOv;go_wp2_with (go_at_call 39;refine(Az g B ca cn cc z6 s6 _ J1.m.cu (by omega) _ (by omega)).mono ?_;rintro e w7 ⟨r7,z7,s7,rfl,hr70,hr71,-,hz7,hCq,hGq⟩;have J2:=J1.call hGq hCq)
         have J2d:=J2.dr;have hOv7:=(AS hOv6 hGq (by omega)).drew;have hs2:=J2d.m.gr.size;have hpos:(0:Int)<(nv:Int):=by omega
         have hne0:¬nv=0:=by omega
         have S0:w7.drew.cell? ⟨b3,3,ν⟩=ς (σ (ς ⟨gv,0,ν⟩) nv cv):=J2d.m.r3.q.c3;refine AnyT.begin (λw'=>w'.cell? ⟨b3,3,ν⟩=ς (σ (ς ⟨gv,0,ν⟩) nv cv)) 6 (by kernel_rfl) ?_;refine AnyT.take (i:=0) (oi:=(⟨ς 146,.fieldAddr 34 (δ 3) 3,0,"l5_replay.go:513",#[],ν⟩:Oper)) (ot:=IT) (v:=ψ (ς ⟨b3,3,ν⟩)) rfl (by decide) rfl (by kernel_rfl) (by kernel_rfl) (by kernel_rfl) (by kernel_rfl) (λ_ _ _ h=>h) (VV ⟨by rfl,λw jS=>by go_simp⟩) S0 ?_;simp only [zS]
         refine AnyT.take (i:=1) (oi:=(⟨ς 147,.load 30 (δ 146),30,"l5_replay.go:513",#[⟨0,φ⟩],ν⟩:Oper)) (ot:=IT) (v:=σ (ς ⟨gv,0,ν⟩) nv cv) rfl (by decide) rfl (by kernel_rfl) (by kernel_rfl) (by kernel_rfl) (by kernel_rfl) (λ_ _ _ h=>h) (VV ⟨by rfl,λw jS=>by go_simp⟩) S0 ?_;simp only [zS]
         refine AnyT.take (i:=2) (oi:=(⟨ς 148,.move (δ 0),47,"l5_replay.go:513",#[],ν⟩:Oper)) (ot:=IT) (v:=ψ (ς ⟨g,0,ν⟩)) rfl (by decide) rfl (by kernel_rfl) (by kernel_rfl) (by kernel_rfl) (by kernel_rfl) (λ_ _ _ h=>h) (VV ⟨by rfl,λw jS=>by go_simp⟩) S0 ?_;simp only [zS]
         refine AnyT.take (i:=3) (oi:=(⟨ς 149,.move (δ 13),3,"l5_replay.go:513",#[],ν⟩:Oper)) (ot:=IT) (v:=ι κ (1+r7)) rfl (by decide) rfl (by kernel_rfl) (by kernel_rfl) (by kernel_rfl) (by kernel_rfl) (λ_ _ _ h=>h) (VV ⟨by rfl,λw jS=>by go_simp⟩) S0 ?_;simp only [zS]
         refine AnyT.ready (rs:=[4]) (by kernel_rfl) (by simp) ?_;refine(ReadyT.cons (o:=(⟨ς 150,.call ⟨.value (.func 88),#[δ 148,δ 149],#[47,3]⟩,60,"l5_replay.go:513",#[⟨2,φ⟩,⟨3,φ⟩],ν⟩:Oper)) rfl (λK hK=>?_) ReadyT.nil);go_simp;refine(Dn g B ca cn cc z7 s7 (1+r7) _ J2d.m.cu (by omega) (by omega)).mono ?_;rintro e w8 ⟨o8,q8,T8,z8,s8,rfl,hT8,hz8,hC8,hG8⟩;have J3:=J2d.call hG8 hC8;have S1:w8.cell? ⟨b3,3,ν⟩=ς (σ (ς ⟨gv,0,ν⟩) nv cv):=J3.m.r3.q.c3;have hOv8:=AS hOv7 hG8 (by omega);refine hK.out _ _ (λ_=>S1) ?_;clear hK K;refine AnyT.take (i:=5) (oi:=(⟨ς 151,.indexAddr 30 (δ 147) (.const (ι κ 0)),0,"l5_replay.go:513",#[⟨1,φ⟩,⟨0,ξ⟩,⟨1,ξ⟩,⟨2,ξ⟩,⟨3,ξ⟩,⟨4,ξ⟩],ν⟩:Oper)) (ot:=IT) (v:=ψ (ς ⟨gv,0,ν⟩)) rfl (by decide) rfl (by kernel_rfl) (by kernel_rfl) (by kernel_rfl) (by kernel_rfl) (λ_ _ _ h=>h) (VV ⟨by rfl,λw jS=>by go_simp⟩) S1 ?_;simp only [zS]
         obtain⟨x0,x1,x2,hx0,hx1,hx2⟩:=Mb hOv8 (by omega);have y0:=hOv8.frozenAt 0;have y1:=hOv8.frozenAt 1;have y2:=hOv8.frozenAt 2;refine AnyT.ready (rs:=[6]) (by kernel_rfl) (by simp) ?_;refine(ReadyT.cons (o:=IT) rfl (λK hK=>?_) ReadyT.nil);go_simp;refine hK.out _ _ (λe=>absurd rfl e) ?_;clear hK K;refine AnyT.done (by kernel_rfl) ?_ _;have M4:Mk8 g B ca cn cc w w.heap.size b3 { p0 2 tb with a3:=ς ⟨gv,0,ν⟩,n3:=nv,c3:=cv } z8 s8 (((w8.setCell ⟨gv,0,ν⟩ (ι κ o8)).setCell ⟨gv,1,ν⟩ (ι κ q8)).setCell ⟨gv,2,ν⟩ (τ T8)):=J3.m.rowset (KH w8 gv _ _ _) hB (VD _) (by omega) (by omega) ((QM b3 _ 2 tb htb).w3 _ _ _ (Po (JA hOv8 hIv) o8 q8 T8 hT8) (by omega) (BG (by omega)));obtain⟨X,hX⟩:∃ X,(((w8.setCell ⟨gv,0,ν⟩ (ι κ o8)).setCell ⟨gv,1,ν⟩ (ι κ q8)).setCell ⟨gv,2,ν⟩ (τ T8))=X:=⟨_,rfl⟩;rw [hX] at M4 ⊢;clear hX J3 J2 J2d S1 hOv8 hOv7 hOv6 hx0 hx1 hx2 y0 y1 y2;go_wp2;have J4:Mj g B ca cn cc w X b3 _ z8 s8 X:=⟨M4,λ_ _ _ h=>h,hB,hlt,by omega,VD _⟩;have J4d:=J4.dr;have hs4:=J4d.m.gr.size;have S2:X.drew.cell? ⟨b3,3,ν⟩=ς (σ (ς ⟨gv,0,ν⟩) nv cv):=J4d.m.r3.q.c3;refine AnyT.begin (λw'=>w'.cell? ⟨b3,3,ν⟩=ς (σ (ς ⟨gv,0,ν⟩) nv cv)) 10 (by kernel_rfl) ?_;refine AnyT.take (i:=0) (oi:=(⟨ς 152,.fieldAddr 34 (δ 3) 3,0,"l5_replay.go:514",#[],ν⟩:Oper)) (ot:=FI) (v:=ψ (ς ⟨b3,3,ν⟩)) rfl (by decide) rfl (by kernel_rfl) (by kernel_rfl) (by kernel_rfl) (by kernel_rfl) (λ_ _ _ h=>h) (VV ⟨by rfl,λw jS=>by go_simp⟩) S2 ?_;simp only [zS]
         refine AnyT.take (i:=1) (oi:=(⟨ς 153,.load 30 (δ 152),30,"l5_replay.go:514",#[⟨0,φ⟩],ν⟩:Oper)) (ot:=FI) (v:=σ (ς ⟨gv,0,ν⟩) nv cv) rfl (by decide) rfl (by kernel_rfl) (by kernel_rfl) (by kernel_rfl) (by kernel_rfl) (λ_ _ _ h=>h) (VV ⟨by rfl,λw jS=>by go_simp⟩) S2 ?_;simp only [zS]
         refine AnyT.take (i:=2) (oi:=(⟨ς 154,.move (δ 0),47,"l5_replay.go:514",#[],ν⟩:Oper)) (ot:=FI) (v:=ψ (ς ⟨g,0,ν⟩)) rfl (by decide) rfl (by kernel_rfl) (by kernel_rfl) (by kernel_rfl) (by kernel_rfl) (λ_ _ _ h=>h) (VV ⟨by rfl,λw jS=>by go_simp⟩) S2 ?_;simp only [zS]
         refine AnyT.take (i:=3) (oi:=(⟨ς 155,.fieldAddr 34 (δ 3) 3,0,"l5_replay.go:514",#[],ν⟩:Oper)) (ot:=FI) (v:=ψ (ς ⟨b3,3,ν⟩)) rfl (by decide) rfl (by kernel_rfl) (by kernel_rfl) (by kernel_rfl) (by kernel_rfl) (λ_ _ _ h=>h) (VV ⟨by rfl,λw jS=>by go_simp⟩) S2 ?_;simp only [zS]
         refine AnyT.take (i:=4) (oi:=(⟨ς 156,.load 30 (δ 155),30,"l5_replay.go:514",#[⟨3,φ⟩],ν⟩:Oper)) (ot:=FI) (v:=σ (ς ⟨gv,0,ν⟩) nv cv) rfl (by decide) rfl (by kernel_rfl) (by kernel_rfl) (by kernel_rfl) (by kernel_rfl) (λ_ _ _ h=>h) (VV ⟨by rfl,λw jS=>by go_simp⟩) S2 ?_;simp only [zS]
         refine AnyT.take (i:=5) (oi:=(⟨ς 157,.call ⟨.builtin .len,#[δ 156],#[30]⟩,3,"l5_replay.go:514",#[⟨4,φ⟩],ν⟩:Oper)) (ot:=FI) (v:=ι κ (nv:Int)) rfl (by decide) rfl (by kernel_rfl) (by kernel_rfl) (by kernel_rfl) (by kernel_rfl) (λ_ _ _ h=>h) (VV ⟨by rfl,λw jS=>by go_simp⟩) S2 ?_;simp only [zS]
         refine AnyT.ready (rs:=[6]) (by kernel_rfl) (by simp) ?_;refine(ReadyT.cons (o:=(⟨ς 158,.call ⟨.value (.func 39),#[δ 154,δ 157],#[47,3]⟩,3,"l5_replay.go:514",#[⟨2,φ⟩,⟨5,φ⟩],ν⟩:Oper)) rfl (λK hK=>?_) ReadyT.nil);go_simp;refine(Az g B ca cn cc z8 s8 _ J4d.m.cu (by omega) _ (by omega)).mono ?_;rintro e w9 ⟨r9,z9,s9,rfl,hr90,hr91,-,hz9,hC9,hG9⟩;obtain⟨kk,rfl⟩:∃ k:Nat,r9=k:=⟨r9.toNat,by omega⟩;have J5:=J4d.call hG9 hC9;have S3:w9.cell? ⟨b3,3,ν⟩=ς (σ (ς ⟨gv,0,ν⟩) nv cv):=J5.m.r3.q.c3;have e7:IntKind.i64.wrap (1+(kk:Int))=1+kk:=by rw [IntKind.wrap_i64];omega
         have b1:(0:Int)<=1+(kk:Int):=by omega
         have b2:(1:Int)+(kk:Int)<=(cv:Int):=by omega
         have e8:((1:Int)+(kk:Int)).toNat=1+kk:=by omega
         refine hK.out _ _ (λ_=>S3) ?_;clear hK K;refine AnyT.take (i:=7) (oi:=(⟨ς 159,.binOp .add 3 (.const (ι κ 1)) (δ 158) 3,3,"l5_replay.go:514",#[⟨6,φ⟩],ν⟩:Oper)) (ot:=FI) (v:=ι κ (1+(kk:Int))) rfl (by decide) rfl (by kernel_rfl) (by kernel_rfl) (by kernel_rfl) (by kernel_rfl) (λ_ _ _ h=>h) (VV ⟨by rfl,λw jS=>by go_simp⟩) S3 ?_;simp only [zS]
         refine AnyT.take (i:=8) (oi:=(⟨ς 160,.slice 30 (δ 153) ν (ς (δ 159)) ν,30,"l5_replay.go:514",#[⟨1,φ⟩,⟨7,φ⟩],ν⟩:Oper)) (ot:=FI) (v:=σ (ς ⟨gv,0,ν⟩) (1+kk) cv) rfl (by decide) rfl (by kernel_rfl) (by kernel_rfl) (by kernel_rfl) (by kernel_rfl) (λ_ _ _ h=>h) (VV ⟨by rfl,λw jS=>by go_simp⟩) S3 ?_;simp only [zS]
         refine AnyT.take (i:=9) (oi:=(⟨ς 161,.fieldAddr 34 (δ 3) 3,0,"l5_replay.go:514",#[⟨0,ξ⟩,⟨1,ξ⟩,⟨2,ξ⟩,⟨3,ξ⟩,⟨4,ξ⟩,⟨5,ξ⟩,⟨6,ξ⟩,⟨7,ξ⟩,⟨8,ξ⟩],ν⟩:Oper)) (ot:=FI) (v:=ψ (ς ⟨b3,3,ν⟩)) rfl (by decide) rfl (by kernel_rfl) (by kernel_rfl) (by kernel_rfl) (by kernel_rfl) (λ_ _ _ h=>h) (VV ⟨by rfl,λw jS=>by go_simp⟩) S3 ?_;simp only [zS]
         have c3:=J5.m.r3.q.c3;have f3:=J5.m.r3.f 3 (by omega);have J6:=J5.w3 (ς ⟨gv,0,ν⟩) (1+kk) cv (λj hj=>J5.m.sf.va j (by show j<nv;omega)) (by omega) (BG (by omega));refine AnyT.ready (rs:=[10]) (by kernel_rfl) (by simp) ?_;refine(ReadyT.cons (o:=FI) rfl (λK hK=>?_) ReadyT.nil);go_simp;refine hK.out _ _ (λe=>absurd rfl e) ?_;clear hK K;refine AnyT.done (by kernel_rfl) ?_ _;go_wp2;go_meet
         exact⟨_,z9,s9,by omega,J6.m,Vb (VV ⟨rfl,rfl,by show 1<=1+kk;omega,by show 1+kk<=20;omega,rfl,rfl,rfl,rfl⟩)⟩
       ·
        as_aux_lemma=>
         by_cases e3:p.k=3
         ·
          have J2:=J1.al (γ #[τ ⟨#[105,100]⟩,τ ⟨#[110,97,109,101]⟩,τ ⟨#[122,122]⟩] 9);go_wp2_with (go_at_call 39;refine(Az g B ca cn cc z6 s6 _ J2.m.cu (by omega) _ (by omega)).mono ?_;rintro e w7 ⟨r7,z7,s7,rfl,hr70,hr71,-,hz7,hCq,hGq⟩;obtain⟨kk,rfl⟩:∃ k:Nat,r7=k:=⟨r7.toNat,by omega⟩;obtain⟨X,hX,hXs⟩:=EV AM hGq (by omega) (by kernel_rfl) kk (by show kk<3;omega);have J3:=J2.call hGq hCq;have c4:=J3.m.r3.q.c4;have f4:=J3.m.r3.f 4 (by omega);have J4:=J3.w4 X (Vb hXs))
          go_meet
          exact⟨_,z7,s7,by omega,J4.m,T7 HSH.out e3 hXs⟩
         ·
          have J2:=J1.al (γ #[τ ⟨#[110,97,109,101]⟩,τ ⟨#[105,100]⟩,τ ⟨#[122,122]⟩,τ ⟨#[107,101,121]⟩] 9);go_wp2_with (go_at_call 39;refine(Az g B ca cn cc z6 s6 _ J2.m.cu (by omega) _ (by omega)).mono ?_;rintro e w7 ⟨r7,z7,s7,rfl,hr70,hr71,-,hz7,hCq,hGq⟩;obtain⟨kk,rfl⟩:∃ k:Nat,r7=k:=⟨r7.toNat,by omega⟩;obtain⟨X,hX,hXs⟩:=EV AM hGq (by omega) (by kernel_rfl) kk (by show kk<4;omega);have J3:=J2.call hGq hCq;have hl9:=J3.m.lt3;have c6':=J3.m.r3.q.c6;have f6':=J3.m.r3.f 6 (by omega);have J4:=J3.al (γ #[ι κ 3,ι κ 0,τ X] 42);have c6:=J4.m.r3.q.c6;have f6:=J4.m.r3.f 6 (by omega);have J5:=J4.w6 (ς ⟨w7.heap.size,0,ν⟩) 1 1 (HU (Mc w7 0 3 0 X (VS _)) (Ied.one _ _ _ (RN hXs) rfl) (by omega) (by omega)) (by omega) (BG hl9))
          go_meet
          rw [World.setCell_alloc_past _ _ _ _ hl9] at J5;exact⟨_,z7,s7,by omega,J5.m,T6 HSH.out e1 e2 e3⟩
     ·
      go_wp2;go_meet
      exact⟨_,z6,s6,by omega,J1.m,HSH.out⟩
    case rest=>obtain⟨p',z7,s7,hz7,M7,hsh⟩:=hcut;have HSH':Hid (M8 p'):=hsh;clear hsh;obtain⟨p2,W2⟩:=M7.r2;have hs7:=M7.gr.size;obtain⟨q0,q1,q2,q3,q4,q5,q6,q7⟩:=M7.r3.q;obtain⟨v0,v1,v2,v3,v4,v5,v6,v7⟩:=W2.q;have x0:=W2.f 0 (by omega);have x1:=W2.f 1 (by omega);have x2:=W2.f 2 (by omega);have x3:=W2.f 3 (by omega);have x4:=W2.f 4 (by omega);have x5:=W2.f 5 (by omega);have x6:=W2.f 6 (by omega);have x7:=W2.f 7 (by omega);have W3:=W2.all p';obtain⟨r0,r1,r2,r3,r4,r5,r6,r7⟩:=W3.q;clear J0 J1 hk1 hk2 hco5;go_wp2;exact VE (v:=χ p'.cs) (by simp [results,Tryz.results40,go_sem,r0,r1,r2,r3,r4,r5,r6,r7]) rfl ⟨p',z7,s7,rfl,(M7.sf.ka (KA.gr (LD wc w.heap.size p') (λk e=>by have e:w.heap.size=k:=VF e;omega))).sm,HSH'.out,by omega,M7.cu.gw (LD wc w.heap.size p') hB (by omega),Ch M7.gr (LD wc w.heap.size p') (λk e=>by have e:w.heap.size=k:=VF e;omega)⟩
