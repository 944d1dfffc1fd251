import Derived.Test.YtfnfdllflgmhnaaGreatDoorUp
open Go renaming Calls → XR, Value → XU, World → ο, heap_alloc_new → η, wpAnyH_done → XW, wpList_append_lies → XY, wp_region_held_drew → XO, cell_of_row → ε, heap_setCell_same → π
open Go.Ending renaming returned → ρ
open Go.Ground renaming data → φ
open Go.IntKind renaming i64 → κ
open Go.Obj renaming cells → γ
open Go.Operand renaming tmp → δ
open Go.Proofs.Tryz renaming prog → μ
open Go.RowKit renaming Below → υ, intOf → XX
open Go.RowKit.Below renaming refl → Xa
open Go.Value renaming bool → β, int → ι, slice → σ, string → τ
open Go.World renaming news_of_block → XP, ownsRow_made → Xb
open List renaming length_take → Xf, length_append → XQ
open Nat renaming add_zero → Xm, le_refl → XK, zero_le → XZ, zero_add → XT
open Option renaming none → ν, some → ς
open Option.some renaming inj → XM
open Or renaming inl → Xc, inr → Xi
namespace Go.Proofs.YtfnfdllflgmhnaaGreatDoor
open Go.RowKit Go.Maps Go.WideMaps
set_option maxRecDepth 20000
set_option maxHeartbeats 16000000
abbrev SJ:Oper:=⟨ς 35,.move (δ 7),3,"l5_replay.go:236",#[],ν⟩
abbrev SI:Oper:=⟨ς 36,.move (δ 4),36,"l5_replay.go:236",#[],ν⟩
abbrev SH:Oper:=⟨ς 37,.call ⟨.builtin .len,#[δ 36],#[36]⟩,3,"l5_replay.go:236",#[⟨1,φ⟩],ν⟩
abbrev SG:Oper:=⟨ς 38,.binOp .eql 3 (δ 35) (δ 37) 3,4,"l5_replay.go:236",#[⟨0,φ⟩,⟨2,φ⟩],ν⟩
abbrev SF:Oper:=⟨ς 39,.move (δ 38),4,"l5_replay.go:236",#[⟨3,φ⟩],ν⟩
abbrev SE:Oper:=⟨ς 40,.move (δ 6),3,"l5_replay.go:236",#[⟨4,.guard⟩],ς (4,false)⟩
abbrev SD:Oper:=⟨ς 41,.move (δ 3),36,"l5_replay.go:236",#[⟨4,.guard⟩],ς (4,false)⟩
abbrev SC:Oper:=⟨ς 42,.call ⟨.builtin .len,#[δ 41],#[36]⟩,3,"l5_replay.go:236",#[⟨6,φ⟩,⟨4,.guard⟩],ς (4,false)⟩
abbrev SB:Oper:=⟨ς 43,.binOp .lss 3 (δ 40) (δ 42) 3,4,"l5_replay.go:236",#[⟨5,φ⟩,⟨7,φ⟩,⟨4,.guard⟩],ς (4,false)⟩
abbrev SA:Oper:=⟨ς 44,.move (δ 43),4,"l5_replay.go:236",#[⟨8,φ⟩,⟨4,.chain⟩,⟨4,.guard⟩],ς (4,false)⟩
abbrev L5:Oper:=⟨ς 45,.move (δ 3),36,"l5_replay.go:236",#[⟨9,.guard⟩],ς (9,true)⟩
abbrev L4:Oper:=⟨ς 46,.move (δ 6),3,"l5_replay.go:236",#[⟨9,.guard⟩],ς (9,true)⟩
abbrev L3:Oper:=⟨ς 47,.indexAddr 36 (δ 45) (δ 46),0,"l5_replay.go:236",#[⟨10,φ⟩,⟨11,φ⟩,⟨9,.guard⟩],ς (9,true)⟩
abbrev L2:Oper:=⟨ς 48,.load 60 (δ 47),60,"l5_replay.go:236",#[⟨12,φ⟩,⟨9,.guard⟩],ς (9,true)⟩
abbrev L1:Oper:=⟨ς 49,.indexAddr 60 (δ 48) (.const (ι κ 0)),0,"l5_replay.go:236",#[⟨13,φ⟩,⟨9,.guard⟩],ς (9,true)⟩
abbrev L0:Oper:=⟨ς 50,.load 94 (δ 49),94,"l5_replay.go:236",#[⟨14,φ⟩,⟨9,.guard⟩],ς (9,true)⟩
abbrev Lz:Oper:=⟨ς 51,.move (δ 4),36,"l5_replay.go:236",#[⟨9,.guard⟩],ς (9,true)⟩
abbrev Ly:Oper:=⟨ς 52,.move (δ 7),3,"l5_replay.go:236",#[⟨9,.guard⟩],ς (9,true)⟩
abbrev Lx:Oper:=⟨ς 53,.indexAddr 36 (δ 51) (δ 52),0,"l5_replay.go:236",#[⟨16,φ⟩,⟨17,φ⟩,⟨9,.guard⟩],ς (9,true)⟩
abbrev Lw:Oper:=⟨ς 54,.load 60 (δ 53),60,"l5_replay.go:236",#[⟨18,φ⟩,⟨9,.guard⟩],ς (9,true)⟩
abbrev Lv:Oper:=⟨ς 55,.indexAddr 60 (δ 54) (.const (ι κ 0)),0,"l5_replay.go:236",#[⟨19,φ⟩,⟨9,.guard⟩],ς (9,true)⟩
abbrev Lu:Oper:=⟨ς 56,.load 94 (δ 55),94,"l5_replay.go:236",#[⟨20,φ⟩,⟨9,.guard⟩],ς (9,true)⟩
abbrev Lt:Oper:=⟨ς 57,.call ⟨.value (.func 135),#[δ 50,δ 56],#[94,94]⟩,3,"l5_replay.go:236",#[⟨15,φ⟩,⟨21,φ⟩,⟨9,.chain⟩,⟨9,.guard⟩],ς (9,true)⟩
abbrev Ls:Oper:=⟨ς 58,.binOp .leq 3 (δ 57) (.const (ι κ 0)) 3,4,"l5_replay.go:236",#[⟨22,φ⟩,⟨9,.guard⟩],ς (9,true)⟩
abbrev Lr:Oper:=⟨ς 59,.pick (δ 44) (δ 58) (.const (β false)),4,"l5_replay.go:236",#[⟨9,φ⟩,⟨23,φ⟩,⟨4,.guard⟩],ς (4,false)⟩
abbrev Lq:Oper:=⟨ς 60,.pick (δ 39) (.const (β true)) (δ 59),4,"l5_replay.go:236",#[⟨4,φ⟩,⟨24,φ⟩],ν⟩
def Tj(D:Nat->Prop)(w:ο)(A:List Rw)(e:Ending)(w':ο):Prop:=∃ a' c',e=ρ (σ a' A.length c')/\A.length<=c'/\OD D w' a' A/\υ w.heap.size w w'
theorem AaC{w:ο}{base e size n g cap:Nat}{xs:List XU}(h:w.ownsRow base e size (σ (ς ⟨g,0,ν⟩) n cap) n xs):n<=cap:=by
 rcases h.2 with ⟨e,-⟩ | ⟨g',cap',cur,e,-,-,h1,-⟩
 · simp at e
 ·
  simp only [Value.slice.injEq,Option.some.injEq,Addr.mk.injEq,and_true,true_and] at e
  omega
theorem OD.at{D:Nat->Prop}{w:ο}{a:Option Addr}{A:List Rw}(h:OD D w a A){k:Nat}(hk:k<A.length)(h0:∀ x∈A,0<x.1):∃ (b off c bq offq m:Nat) (F:Nat->Itm) (o mm:Int) (s:ByteArray),A.getD k r0=(m,F)/\F 0=⟨o,mm,s⟩/\0<m/\a=ς ⟨b,off,ν⟩/\w.cell? ⟨b,off+k,ν⟩=ς (σ (ς ⟨bq,offq,ν⟩) m c)/\w.cell? ⟨bq,offq,ν⟩=ς (ι κ o)/\w.cell? ⟨bq,offq+1,ν⟩=ς (ι κ mm)/\w.cell? ⟨bq,offq+2,ν⟩=ς (τ s)/\Liv D w (ER [σ (ς ⟨bq,offq,ν⟩) m c] (m,F)):=by
 obtain⟨b,off,i,c,e,-,c0,hl⟩:=h k hk;have hp:=h0 _ (CV (y:=r0) hk);obtain⟨m,F,hx⟩:∃ m F,A.getD k r0=(m,F):=⟨_,_,rfl⟩;rw [hx] at c0 hl hp;obtain⟨a2,c2,e2,hI,-⟩:=hl.now;simp only [List.cons.injEq,and_true,Value.slice.injEq,true_and] at e2
 obtain⟨rfl,rfl⟩:=e2;obtain⟨bq,offq,rfl,y0,y1,y2,-⟩:=hI 0 hp;simp only [Nat.zero_mul,Xm] at y0 y1 y2
 exact⟨b,off,c,bq,offq,m,F,_,_,_,hx,rfl,hp,e,c0,y0,y1,y2,hl⟩
theorem UA(D:Nat->Prop):∀ (fu:Nat) (A:List Rw) (a:Option Addr) (c:Nat) (w:ο),A.length<=fu->A.length<=1000000->A.length<=c->OD D w a A->(∀ x∈A,0<x.1)->(∀ b,w.heap.size<=b->D b)->XR μ 134 #[σ a A.length c] w (Tj D w (It fu A)):=by
 intro fu;induction fu with
 | zero=>
  intro A a c w hf hm hc h h0 hD;have hl:A.length=0:=by omega
  have HA:Hid (It 0 A=A):=rfl;have hl2:(A.length:Int)<2:=by omega
  go_enter Tryz.func134,Tryz.ntmps134
  go_wp2;go_ret
  rw [HA.out];exact⟨a,c,rfl,hc,h,Xa _ _⟩
 | succ fu ih=>
  intro A a c w hf hm hc h h0 hD;by_cases hs:A.length<2
  ·
   have HA:Hid (It (fu+1) A=A):=by show _=_;rw [It,if_pos hs]
   have hl2:(A.length:Int)<2:=by omega
   go_enter Tryz.func134,Tryz.ntmps134
   go_wp2;go_ret
   rw [HA.out];exact⟨a,c,rfl,hc,h,Xa _ _⟩
  have hl2:¬(A.length:Int)<2:=by omega
  obtain⟨hh,hhe⟩:∃ hh,A.length / 2=hh:=⟨_,rfl⟩;have hh1:hh<A.length:=by omega
  have hh2:0<hh:=by omega
  obtain⟨S1,hS1⟩:∃ S1,It fu (A.take hh)=S1:=⟨_,rfl⟩;obtain⟨S2,hS2⟩:∃ S2,It fu (A.drop hh)=S2:=⟨_,rfl⟩;have l1:S1.length=hh:=by rw [←hS1,EW,Xf];omega
  have l2:S2.length=A.length - hh:=by rw [←hS2,EW,List.length_drop]
  have HA:Hid (It (fu+1) A=EQ (S1.length+S2.length) S1 S2):=by
   show _=_
   rw [It,if_neg hs,hhe,hS1,hS2,l1,l2];congr 1
   omega
  have HM1:Hid (∀ x∈S1,0<x.1):=by rw [←hS1];exact EV _ _ (λx hx=>h0 x (List.mem_of_mem_take hx))
  have HM2:Hid (∀ x∈S2,0<x.1):=by rw [←hS2];exact EV _ _ (λx hx=>h0 x (List.mem_of_mem_drop hx))
  obtain⟨b,off,-,-,rfl,-⟩:=h 0 (by omega);have HC1:=ih (A.take hh) (ς ⟨b,off,ν⟩) c w (by rw [Xf];omega) (by rw [Xf];omega) (by rw [Xf];omega) (h.take hh) (λx hx=>h0 x (List.mem_of_mem_take hx)) hD;rw [hS1,show (A.take hh).length=hh from by rw [Xf];omega] at HC1
  have HC2:∀ w1,υ w.heap.size w w1->XR μ 134 #[σ (ς ⟨b,off+hh,ν⟩) (A.length - hh) (c - hh)] w1 (Tj D w1 S2):=λw1 hb=>by
   have:=ih (A.drop hh) (ς ⟨b,off+hh,ν⟩) (c - hh) w1 (by rw [List.length_drop];omega) (by rw [List.length_drop];omega) (by rw [List.length_drop];omega) ((h.later hb).drop hh) (λx hx=>h0 x (List.mem_of_mem_drop hx)) (λb hb'=>hD b (by have:=hb.size;omega));rwa [hS2,List.length_drop] at this
  have HC2':Hid (∀ w1,υ w.heap.size w w1->XR μ 134 #[σ (ς ⟨b,off+hh,ν⟩) (A.length - hh) (c - hh)] w1 (Tj D w1 S2)):=HC2;have HL12:Hid (S1.length=hh/\S2.length=A.length - hh):=⟨l1,l2⟩;have hl1m:S1.length<=1000000:=by omega
  have hl2m:S2.length<=1000000:=by omega
  have HHE:Hid (A.length / 2=hh):=hhe;have hq:((A.length:Int) / 2)=(hh:Int):=by omega
  clear ih h0 hS1 hS2 HC2 hs hhe l1 l2;have hhc:(hh:Int)<=c:=by omega
  have hhc3:¬c=hh:=by omega
  have hhc2:hh<=c:=by omega
  have hh0:(0:Int)<=hh:=by omega
  have hhl:(hh:Int)<=A.length:=by omega
  have hhl2:hh<=A.length:=by omega
  obtain⟨jr,hir,hzr0,hzr1,hzr2⟩:=info_parts Tryz.infoRow;have HIr:Hid (Tryz.prog.info? 60=ς jr):=hir;clear hir;go_enter Tryz.func134,Tryz.ntmps134
  go_wp2_with (first | (go_at_call 134;have _h:=hb1;refine(HC2'.out _ hb1).mono ?_;rintro e w2 ⟨a2,cc2,rfl,hcc2,hOD2,hb2⟩) | (go_at_call 134;refine HC1.mono ?_;rintro e w1 ⟨a1,cc1,rfl,hcc1,hOD1,hb1⟩))
  have hbw2:=AA hb1 hb2;have hA1:=(hOD1.later hb2).cut;have hA2:=hOD2.cut;have hsw2:=hbw2.size;clear hOD1 hOD2 _h;have hO0:(w2.alloc (γ #[] 60)).ownsRow w2.heap.size 60 1 (σ (ς ⟨w2.heap.size,0,ν⟩) 0 0) 0 []:=Xb w2 #[] 0 (XK _) (by unfold maxLen;omega) rfl;go_loopw [5,6,7] (λv5 v6 v7 wr=>∃ (i j g cap:Nat) (O:List Rw) (f:Nat->List XU),i<=S1.length/\j<=S2.length/\v6=ι κ i/\v7=ι κ j/\v5=σ (ς ⟨g,0,ν⟩) O.length cap/\O.length=i+j/\O ++ EQ (S1.length - i+(S2.length - j)) (S1.drop i) (S2.drop j)=EQ (S1.length+S2.length) S1 S2/\RO w2.heap.size (λb=>D b/\b<w2.heap.size) wr (σ (ς ⟨g,0,ν⟩) O.length cap) O.length (λi=>O.getD i r0) f/\υ w2.heap.size w2 wr) (λ_ v6 v7 _=>S1.length+S2.length - ((XX v6).toNat+(XX v7).toNat))
  case atStart=>exact⟨0,0,w2.heap.size,0,[],λ_=>[],XZ _,XZ _,rfl,rfl,rfl,rfl,rfl,GO.nil hO0,AE _ _⟩
  case round=>
   obtain⟨i,j,g,cap,O,f,hi,hj,rfl,rfl,rfl,hOl,hinv,hRO,hbr⟩:=hrel;have HINV:Hid (O.length=i+j/\O ++ EQ (S1.length - i+(S2.length - j)) (S1.drop i) (S2.drop j)=EQ (S1.length+S2.length) S1 S2):=⟨hOl,hinv⟩;have hOm:O.length<=2000000:=by omega
   clear hOl hinv;have hsr:=hbr.size;have hgl:=hRO.own.lt g rfl;have hB1:=hA1.later hbr;have hB2:=hA2.later hbr;have hi0:(0:Int)<=i:=by omega
   have hj0:(0:Int)<=j:=by omega
   by_cases hjl:j<S2.length
   ·
    have hjl2:(j:Int)<S2.length:=by omega
    have hjn:((j:Int) == S2.length)=false:=by simp;omega
    obtain⟨bB,offB,cB,bqB,offqB,mB,FB,oB,mmB,sB,hxB,hFB,hm0B,rfl,e0B,y0B,y1B,y2B,hLB⟩:=hB2.at hjl HM2.out;have HXB:Hid (S2.getD j r0=(mB,FB)/\FB 0=⟨oB,mmB,sB⟩):=⟨hxB,hFB⟩;have hmB:(0:Int)<mB:=by omega
    clear hxB hFB;by_cases hil:i<S1.length
    ·
     have hil2:(i:Int)<S1.length:=by omega
     obtain⟨bA,offA,cA,bqA,offqA,mA,FA,oA,mmA,sA,hxA,hFA,hm0A,rfl,e0A,y0A,y1A,y2A,hLA⟩:=hB1.at hil HM1.out;have HXA:Hid (S1.getD i r0=(mA,FA)/\FA 0=⟨oA,mmA,sA⟩):=⟨hxA,hFA⟩;have hmA:(0:Int)<mA:=by omega
     clear hxA hFA;obtain⟨cz,hcz⟩:∃ cz,BP mmA sA mmB sB=cz:=⟨_,rfl⟩;have HCZ:Hid (JC (S1.getD i r0) (S2.getD j r0)=cz):=by show _=_;unfold JC;rw [HXA.out.1,HXB.out.1];show BP (FA 0).m (FA 0).s (FB 0).m (FB 0).s=cz;rw [HXA.out.2,HXB.out.2];exact hcz
     have hCmp:=λW=>DL oA mmA sA oB mmB sB W;simp only [hcz] at hCmp
     clear hcz;go_upto_region 9 with (fail)
     refine XO (S:=λx=>υ wr.heap.size wr x) (by kernel_rfl) (BC _) (λjH=>?_);refine tk 0 SJ (λx jS=>by go_simp<;>rfl) jH ?_
     try simp only [zS]
     refine tk 1 SI (λx jS=>by go_simp<;>rfl) jH ?_
     try simp only [zS]
     refine tk 2 SH (λx jS=>by go_simp<;>rfl) jH ?_
     try simp only [zS]
     refine tk 3 SG (λx jS=>by go_simp<;>rfl) jH ?_
     try simp only [zS]
     refine tk 4 SF (λx jS=>by go_simp<;>rfl) jH ?_
     try simp only [zS]
     refine tk 5 SE (λx jS=>by go_simp<;>rfl) jH ?_
     try simp only [zS]
     refine tk 6 SD (λx jS=>by go_simp<;>rfl) jH ?_
     try simp only [zS]
     refine tk 7 SC (λx jS=>by go_simp<;>rfl) jH ?_
     try simp only [zS]
     refine tk 8 SB (λx jS=>by go_simp<;>rfl) jH ?_
     try simp only [zS]
     refine tk 9 SA (λx jS=>by go_simp<;>rfl) jH ?_
     try simp only [zS]
     refine tk 10 L5 (λx jS=>by go_simp<;>rfl) jH ?_
     try simp only [zS]
     refine tk 11 L4 (λx jS=>by go_simp<;>rfl) jH ?_
     try simp only [zS]
     refine tk 12 L3 (λx jS=>by go_simp<;>rfl) jH ?_
     try simp only [zS]
     refine tk 13 L2 (λx jS=>by have k0:=AB jS e0A;have k1:=AB jS y0A;have k2:=AB jS y1A;have k3:=AB jS y2A;have k4:=AB jS e0B;have k5:=AB jS y0B;have k6:=AB jS y1B;have k7:=AB jS y2B;go_simp<;>rfl) jH ?_
     try simp only [zS]
     refine tk 14 L1 (λx jS=>by go_simp<;>rfl) jH ?_
     try simp only [zS]
     refine tk 15 L0 (λx jS=>by have k0:=AB jS e0A;have k1:=AB jS y0A;have k2:=AB jS y1A;have k3:=AB jS y2A;have k4:=AB jS e0B;have k5:=AB jS y0B;have k6:=AB jS y1B;have k7:=AB jS y2B;go_simp<;>rfl) jH ?_
     try simp only [zS]
     refine tk 16 Lz (λx jS=>by go_simp<;>rfl) jH ?_
     try simp only [zS]
     refine tk 17 Ly (λx jS=>by go_simp<;>rfl) jH ?_
     try simp only [zS]
     refine tk 18 Lx (λx jS=>by go_simp<;>rfl) jH ?_
     try simp only [zS]
     refine tk 19 Lw (λx jS=>by have k0:=AB jS e0A;have k1:=AB jS y0A;have k2:=AB jS y1A;have k3:=AB jS y2A;have k4:=AB jS e0B;have k5:=AB jS y0B;have k6:=AB jS y1B;have k7:=AB jS y2B;go_simp<;>rfl) jH ?_
     try simp only [zS]
     refine tk 20 Lv (λx jS=>by go_simp<;>rfl) jH ?_
     try simp only [zS]
     refine tk 21 Lu (λx jS=>by have k0:=AB jS e0A;have k1:=AB jS y0A;have k2:=AB jS y1A;have k3:=AB jS y2A;have k4:=AB jS e0B;have k5:=AB jS y0B;have k6:=AB jS y1B;have k7:=AB jS y2B;go_simp<;>rfl) jH ?_
     try simp only [zS]
     refine rd 22 Lt (λK hK=>?_);go_simp;refine(hCmp _).mono ?_;rintro e w4 ⟨rfl,hb4⟩;refine hK.out _ _ (AA jH hb4) (λjH=>?_);clear hK K;try simp only [zS]
     refine tk 23 Ls (λx jS=>by go_simp<;>rfl) jH ?_
     try simp only [zS]
     refine tk 24 Lr (λx jS=>by go_simp<;>rfl) jH ?_
     try simp only [zS]
     refine tk 25 Lq (λx jS=>by go_simp<;>rfl) jH ?_
     try simp only [zS]
     refine XW (by kernel_rfl) ?_ _;have hb4w:υ wr.heap.size wr w4:=jH;clear jH;by_cases hc0:cz<=0
     ·
      skip
      have hROt:=hRO.later hb4w;have hst:=(hb4w).size;have et:=AB hb4w e0A;go_wp2_with (first | (at_builtin;refine XY _ rfl _ _ _ rfl w2.heap.size 60 jr (σ ν 0 0) 1 24 Tryz.underlying36 HIr.out hzr0 hzr1 hzr2 rfl (by omega) (σ (ς ⟨g,0,ν⟩) O.length cap) O.length (CH f O.length) rfl (hROt.later (AE _ _)).own ⟨w4.heap.size,0,ν⟩ 1 1 [σ (ς ⟨bqA,offqA,ν⟩) mA cA] rfl rfl (XP (η w4 _)) (Bu _ rfl) (by omega) (by unfold maxLen;omega) (by omega) (by simp;omega) _ rfl ?_;intro g8 cap8 w8 hO8 hgr8 hat8 hlt8))
      have hLt:Liv (λb=>(D b/\b<w2.heap.size)/\ς b≠(σ (ς ⟨g,0,ν⟩) O.length cap).ownBlock) w4 (ER [σ (ς ⟨bqA,offqA,ν⟩) mA cA] (mA,FA)):=(hLA.later hb4w).wide (λb hx _=>⟨hx,by show ς b≠ς g;intro e2;have e3:b=g:=XM e2;omega⟩);have hP:=GO.snoc (x:=(mA,FA)) (hROt.later (AE _ _)) (c:=[σ (ς ⟨bqA,offqA,ν⟩) mA cA]) rfl (hLt.later (AE _ _)) hO8 hgr8 hat8;have hb8:=gB (AA (AA hbr hb4w) (AE _ _)) (r:=g) hgr8 hgl.1;have eA:(O ++ [(mA,FA)]).length=O.length+1:=by simp
      go_roundw
      case rel=>exact⟨i+1,j,g8,cap8,O ++ [(mA,FA)],_,by omega,by omega,by go_num,by go_num,by rw [eA],by rw [eA,HINV.out.1];omega,by
       have:=HINV.out.2;rw [VY hil (Xi ⟨hjl,by rw [HCZ.out];exact hc0⟩),HXA.out.1] at this;rw [List.append_assoc];exact this,hP,hb8⟩
      case measure=>simp [XX];omega
     ·
      skip
      have hROt:=hRO.later hb4w;have hst:=(hb4w).size;have et:=AB hb4w e0B;go_wp2_with (first | (at_builtin;refine XY _ rfl _ _ _ rfl w2.heap.size 60 jr (σ ν 0 0) 1 24 Tryz.underlying36 HIr.out hzr0 hzr1 hzr2 rfl (by omega) (σ (ς ⟨g,0,ν⟩) O.length cap) O.length (CH f O.length) rfl (hROt.later (AE _ _)).own ⟨w4.heap.size,0,ν⟩ 1 1 [σ (ς ⟨bqB,offqB,ν⟩) mB cB] rfl rfl (XP (η w4 _)) (Bu _ rfl) (by omega) (by unfold maxLen;omega) (by omega) (by simp;omega) _ rfl ?_;intro g8 cap8 w8 hO8 hgr8 hat8 hlt8))
      have hLt:Liv (λb=>(D b/\b<w2.heap.size)/\ς b≠(σ (ς ⟨g,0,ν⟩) O.length cap).ownBlock) w4 (ER [σ (ς ⟨bqB,offqB,ν⟩) mB cB] (mB,FB)):=(hLB.later hb4w).wide (λb hx _=>⟨hx,by show ς b≠ς g;intro e2;have e3:b=g:=XM e2;omega⟩);have hP:=GO.snoc (x:=(mB,FB)) (hROt.later (AE _ _)) (c:=[σ (ς ⟨bqB,offqB,ν⟩) mB cB]) rfl (hLt.later (AE _ _)) hO8 hgr8 hat8;have hb8:=gB (AA (AA hbr hb4w) (AE _ _)) (r:=g) hgr8 hgl.1;have eA:(O ++ [(mB,FB)]).length=O.length+1:=by simp
      go_roundw
      case rel=>exact⟨i,j+1,g8,cap8,O ++ [(mB,FB)],_,by omega,by omega,by go_num,by go_num,by rw [eA],by rw [eA,HINV.out.1];omega,by
       have:=HINV.out.2;rw [VX hjl (Xi ⟨hil,by rw [HCZ.out];exact hc0⟩),HXB.out.1] at this;rw [List.append_assoc];exact this,hP,hb8⟩
      case measure=>simp [XX];omega
    ·
     obtain rfl:i=S1.length:=by omega
     have hil2:¬(S1.length:Int)<S1.length:=by omega
     go_upto_region 9 with (fail)
     refine XO (S:=λx=>υ wr.heap.size wr x) (by kernel_rfl) (BC _) (λjH=>?_);refine tk 0 SJ (λx jS=>by go_simp<;>rfl) jH ?_
     try simp only [zS]
     refine tk 1 SI (λx jS=>by go_simp<;>rfl) jH ?_
     try simp only [zS]
     refine tk 2 SH (λx jS=>by go_simp<;>rfl) jH ?_
     try simp only [zS]
     refine tk 3 SG (λx jS=>by go_simp<;>rfl) jH ?_
     try simp only [zS]
     refine tk 4 SF (λx jS=>by go_simp<;>rfl) jH ?_
     try simp only [zS]
     refine tk 5 SE (λx jS=>by go_simp<;>rfl) jH ?_
     try simp only [zS]
     refine tk 6 SD (λx jS=>by go_simp<;>rfl) jH ?_
     try simp only [zS]
     refine tk 7 SC (λx jS=>by go_simp<;>rfl) jH ?_
     try simp only [zS]
     refine tk 8 SB (λx jS=>by go_simp<;>rfl) jH ?_
     try simp only [zS]
     refine tk 9 SA (λx jS=>by go_simp<;>rfl) jH ?_
     try simp only [zS]
     refine Ao 10 L5 jH ?_;try simp only [zS]
     refine Ao 11 L4 jH ?_;try simp only [zS]
     refine Ao 12 L3 jH ?_;try simp only [zS]
     refine Ao 13 L2 jH ?_;try simp only [zS]
     refine Ao 14 L1 jH ?_;try simp only [zS]
     refine Ao 15 L0 jH ?_;try simp only [zS]
     refine Ao 16 Lz jH ?_;try simp only [zS]
     refine Ao 17 Ly jH ?_;try simp only [zS]
     refine Ao 18 Lx jH ?_;try simp only [zS]
     refine Ao 19 Lw jH ?_;try simp only [zS]
     refine Ao 20 Lv jH ?_;try simp only [zS]
     refine Ao 21 Lu jH ?_;try simp only [zS]
     refine Ao 22 Lt jH ?_;try simp only [zS]
     refine Ao 23 Ls jH ?_;try simp only [zS]
     refine tk 24 Lr (λx jS=>by go_simp<;>rfl) jH ?_
     try simp only [zS]
     refine tk 25 Lq (λx jS=>by go_simp<;>rfl) jH ?_
     try simp only [zS]
     refine XW (by kernel_rfl) ?_ _;generalize wr.drew=w4 at jH ⊢;have hb4w:υ wr.heap.size wr w4:=jH;clear jH;have hROt:=hRO.later hb4w;have hst:=(hb4w).size;have et:=AB hb4w e0B;go_wp2_with (first | (at_builtin;refine XY _ rfl _ _ _ rfl w2.heap.size 60 jr (σ ν 0 0) 1 24 Tryz.underlying36 HIr.out hzr0 hzr1 hzr2 rfl (by omega) (σ (ς ⟨g,0,ν⟩) O.length cap) O.length (CH f O.length) rfl (hROt.later (AE _ _)).own ⟨w4.heap.size,0,ν⟩ 1 1 [σ (ς ⟨bqB,offqB,ν⟩) mB cB] rfl rfl (XP (η w4 _)) (Bu _ rfl) (by omega) (by unfold maxLen;omega) (by omega) (by simp;omega) _ rfl ?_;intro g8 cap8 w8 hO8 hgr8 hat8 hlt8))
     have hLt:Liv (λb=>(D b/\b<w2.heap.size)/\ς b≠(σ (ς ⟨g,0,ν⟩) O.length cap).ownBlock) w4 (ER [σ (ς ⟨bqB,offqB,ν⟩) mB cB] (mB,FB)):=(hLB.later hb4w).wide (λb hx _=>⟨hx,by show ς b≠ς g;intro e2;have e3:b=g:=XM e2;omega⟩);have hP:=GO.snoc (x:=(mB,FB)) (hROt.later (AE _ _)) (c:=[σ (ς ⟨bqB,offqB,ν⟩) mB cB]) rfl (hLt.later (AE _ _)) hO8 hgr8 hat8;have hb8:=gB (AA (AA hbr hb4w) (AE _ _)) (r:=g) hgr8 hgl.1;have eA:(O ++ [(mB,FB)]).length=O.length+1:=by simp
     go_roundw
     case rel=>exact⟨S1.length,j+1,g8,cap8,O ++ [(mB,FB)],_,by omega,by omega,by go_num,by go_num,by rw [eA],by rw [eA,HINV.out.1];omega,by
      have:=HINV.out.2;rw [VX hjl (Xc rfl),HXB.out.1] at this;rw [List.append_assoc];exact this,hP,hb8⟩
     case measure=>simp [XX];omega
   ·
    obtain rfl:j=S2.length:=by omega
    have hjn:((S2.length:Int) == S2.length)=true:=by simp
    by_cases hil:i<S1.length
    ·
     have hil2:(i:Int)<S1.length:=by omega
     obtain⟨bA,offA,cA,bqA,offqA,mA,FA,oA,mmA,sA,hxA,hFA,hm0A,rfl,e0A,y0A,y1A,y2A,hLA⟩:=hB1.at hil HM1.out;have HXA:Hid (S1.getD i r0=(mA,FA)):=hxA;clear hxA hFA;go_upto_region 9 with (fail)
     refine XO (S:=λx=>υ wr.heap.size wr x) (by kernel_rfl) (BC _) (λjH=>?_);refine tk 0 SJ (λx jS=>by go_simp<;>rfl) jH ?_
     try simp only [zS]
     refine tk 1 SI (λx jS=>by go_simp<;>rfl) jH ?_
     try simp only [zS]
     refine tk 2 SH (λx jS=>by go_simp<;>rfl) jH ?_
     try simp only [zS]
     refine tk 3 SG (λx jS=>by go_simp<;>rfl) jH ?_
     try simp only [zS]
     refine tk 4 SF (λx jS=>by go_simp<;>rfl) jH ?_
     try simp only [zS]
     refine Ao 5 SE jH ?_;try simp only [zS]
     refine Ao 6 SD jH ?_;try simp only [zS]
     refine Ao 7 SC jH ?_;try simp only [zS]
     refine Ao 8 SB jH ?_;try simp only [zS]
     refine Ao 9 SA jH ?_;try simp only [zS]
     refine Ao 10 L5 jH ?_;try simp only [zS]
     refine Ao 11 L4 jH ?_;try simp only [zS]
     refine Ao 12 L3 jH ?_;try simp only [zS]
     refine Ao 13 L2 jH ?_;try simp only [zS]
     refine Ao 14 L1 jH ?_;try simp only [zS]
     refine Ao 15 L0 jH ?_;try simp only [zS]
     refine Ao 16 Lz jH ?_;try simp only [zS]
     refine Ao 17 Ly jH ?_;try simp only [zS]
     refine Ao 18 Lx jH ?_;try simp only [zS]
     refine Ao 19 Lw jH ?_;try simp only [zS]
     refine Ao 20 Lv jH ?_;try simp only [zS]
     refine Ao 21 Lu jH ?_;try simp only [zS]
     refine Ao 22 Lt jH ?_;try simp only [zS]
     refine Ao 23 Ls jH ?_;try simp only [zS]
     refine Ao 24 Lr jH ?_;try simp only [zS]
     refine tk 25 Lq (λx jS=>by go_simp<;>rfl) jH ?_
     try simp only [zS]
     refine XW (by kernel_rfl) ?_ _;generalize wr.drew=w4 at jH ⊢;have hb4w:υ wr.heap.size wr w4:=jH;clear jH;have hROt:=hRO.later hb4w;have hst:=(hb4w).size;have et:=AB hb4w e0A;go_wp2_with (first | (at_builtin;refine XY _ rfl _ _ _ rfl w2.heap.size 60 jr (σ ν 0 0) 1 24 Tryz.underlying36 HIr.out hzr0 hzr1 hzr2 rfl (by omega) (σ (ς ⟨g,0,ν⟩) O.length cap) O.length (CH f O.length) rfl (hROt.later (AE _ _)).own ⟨w4.heap.size,0,ν⟩ 1 1 [σ (ς ⟨bqA,offqA,ν⟩) mA cA] rfl rfl (XP (η w4 _)) (Bu _ rfl) (by omega) (by unfold maxLen;omega) (by omega) (by simp;omega) _ rfl ?_;intro g8 cap8 w8 hO8 hgr8 hat8 hlt8))
     have hLt:Liv (λb=>(D b/\b<w2.heap.size)/\ς b≠(σ (ς ⟨g,0,ν⟩) O.length cap).ownBlock) w4 (ER [σ (ς ⟨bqA,offqA,ν⟩) mA cA] (mA,FA)):=(hLA.later hb4w).wide (λb hx _=>⟨hx,by show ς b≠ς g;intro e2;have e3:b=g:=XM e2;omega⟩);have hP:=GO.snoc (x:=(mA,FA)) (hROt.later (AE _ _)) (c:=[σ (ς ⟨bqA,offqA,ν⟩) mA cA]) rfl (hLt.later (AE _ _)) hO8 hgr8 hat8;have hb8:=gB (AA (AA hbr hb4w) (AE _ _)) (r:=g) hgr8 hgl.1;have eA:(O ++ [(mA,FA)]).length=O.length+1:=by simp
     go_roundw
     case rel=>exact⟨i+1,S2.length,g8,cap8,O ++ [(mA,FA)],_,by omega,by omega,by go_num,by go_num,by rw [eA],by rw [eA,HINV.out.1];omega,by
      have:=HINV.out.2;rw [VY hil (Xc rfl),HXA.out] at this;rw [List.append_assoc];exact this,hP,hb8⟩
     case measure=>simp [XX];omega
    ·
     obtain rfl:i=S1.length:=by omega
     have HO:Hid (O=EQ (S1.length+S2.length) S1 S2):=by
      have:=HINV.out.2;rw [Nat.sub_self,Nat.sub_self] at this;show O=_
      simpa [EQ] using this
     have hil2:¬(S1.length:Int)<S1.length:=by omega
     have hjl2:¬(S2.length:Int)<S2.length:=by omega
     obtain⟨a',c',e',hOD'⟩:=RO.od (D':=D) hRO (λb hx=>hx.1) (λb hx=>hD b (by omega));obtain⟨rfl,rfl⟩:ς ⟨g,0,ν⟩=a'/\cap=c':=by simpa using e'
     have hcp:=AaC hRO.own;go_wp2;go_ret
     rw [HA.out,←HO.out];exact⟨_,_,rfl,hcp,hOD',AA hbw2 hbr⟩
def H8(F:Nat->Itm)(q:Nat)(v:Itm):Nat->Itm:=λj=>if j=q then v else F j
def Ns(C:Nat->Clm)(n:Nat)(m:Nat->Nat)(R:Nat->Nat->Itm)(q:Nat)(E:Nat->Itm)(n5:Nat)(W:Nat->Itm)(n6:Nat):Nat->List Rw
 | 0=>[]
 | k+1=>Ns C n m R q E n5 W n6 k ++ [(m k,if C5 C n (R k) W n6=true then H8 (R k) q (Cn C n (R k) E n5) else R k)]
def FF(C:Nat->Clm)(n:Nat)(R:Nat->Nat->Itm)(E:Nat->Itm)(n5:Nat)(W:Nat->Itm)(n6:Nat):Nat->Bool
 | 0=>false
 | k+1=>FF C n R E n5 W n6 k || (C5 C n (R k) W n6 && decide (200<(Cn C n (R k) E n5).s.size))
theorem LG{C:Nat->Clm}{n:Nat}{R:Nat->Nat->Itm}{E:Nat->Itm}{n5:Nat}{W:Nat->Itm}{n6 k:Nat}(h:FF C n R E n5 W n6 k=true):∀ r,k<=r->FF C n R E n5 W n6 r=true:=by
 intro r hr;induction r with
 | zero=>
  obtain rfl:k=0:=by omega
  exact h
 | succ r ih=>
  by_cases e:k=r+1
  · subst e;exact h
  · rw [FF,ih (by omega)];rfl
theorem Hm{C:Nat->Clm}{n:Nat}{m:Nat->Nat}{R:Nat->Nat->Itm}{q:Nat}{E:Nat->Itm}{n5:Nat}{W:Nat->Itm}{n6:Nat}:∀ {k:Nat},(Ns C n m R q E n5 W n6 k).length=k
 | 0=>rfl
 | k+1=>by rw [Ns,XQ,Hm];rfl
def F6(A:List Rw):Nat->Bool
 | 0=>false
 | k+1=>F6 A k || (decide (0<k) && decide (JC (A.getD (k - 1) r0) (A.getD k r0)=0))
theorem Gh{A:List Rw}{k:Nat}(h:F6 A k=true):∀ r,k<=r->F6 A r=true:=by
 intro r hr;induction r with
 | zero=>
  obtain rfl:k=0:=by omega
  exact h
 | succ r ih=>
  by_cases e:k=r+1
  · subst e;exact h
  · rw [F6,ih (by omega)];rfl
def N5(C:Nat->Clm)(n:Nat)(q:Nat)(E:Nat->Itm)(n5:Nat)(W:Nat->Itm)(n6:Nat):Int:=
 if ¬(De C n E n5).2=0 then (De C n E n5).2 else if ¬(De C n E n5).1=(C q).t then 4 else EO C n W n6
def E2(dn:Nat)(dC:Nat->Clm)(dr:Nat)(dm:Nat->Nat)(dR:Nat->Nat->Itm)(q:Nat)(E:Nat->Itm)(n5:Nat)(W:Nat->Itm)(n6:Nat):List Rw:=It dr (Ns dC dn dm dR q E n5 W n6 dr)
def Ir(T:Nat->Td)(n:Nat)(ds:ByteArray)(dn:Nat)(dC:Nat->Clm)(dr:Nat)(dm:Nat->Nat)(dR:Nat->Nat->Itm)(col:ByteArray)(E:Nat->Itm)(n5:Nat)(W:Nat->Itm)(n6:Nat):List Td×Int:=
 match Bo dC col dn with
 | none=>(C8 T n,3)
 | some q=>if ¬N5 dC dn q E n5 W n6=0 then (C8 T n,N5 dC dn q E n5 W n6) else if FF dC dn dR E n5 W n6 dr=true then (C8 T n,6)
  else if F6 (E2 dn dC dr dm dR q E n5 W n6) dr=true then (C8 T n,5) else (D8 T (EJ ds dn dC (E2 dn dC dr dm dR q E n5 W n6)) n,0)
theorem KA{w:ο}{G g cap n q:Nat}{I:Nat->Itm}{x:Itm}(h:w.ownsRow G 94 3 (σ (ς ⟨g,0,ν⟩) n cap) n (CH (λk=>v3 (I k)) n))(hs:∀ k,k<n->(I k).s.size<=1048576)(hx:x.s.size<=1048576)(hq:q<n):IL (((w.setCell ⟨g,q * 3,ν⟩ (ι κ x.o)).setCell ⟨g,q * 3+1,ν⟩ (ι κ x.m)).setCell ⟨g,q * 3+2,ν⟩ (τ x.s)) (ς ⟨g,0,ν⟩) n (H8 I q x):=by
 have hI:=E5 h hs;rcases h.2 with ⟨e,-⟩ | ⟨g',cap',cur,e,-,hrow,hc,-,hsz,-⟩
 · simp at e
 ·
  obtain⟨rfl,rfl⟩:g=g'/\cap=cap':=by simpa using e
  have hr:=π _ _ (q * 3+2) _ _ (τ x.s) (π _ _ (q * 3+1) _ _ (ι κ x.m) (π _ _ (q * 3) _ _ (ι κ x.o) hrow));intro k hk;obtain⟨b,off,e2,c0,c1,c2,-⟩:=hI k hk;obtain⟨rfl,rfl⟩:g=b/\0=off:=by simpa using e2
  have hcur:∀ i v,w.cell? ⟨g,i,ν⟩=ς v->cur[i]?=ς v:=λi v hv=>by
   have:=ε w g i _ _ _ hrow;rw [this] at hv;exact hv
  rw [XT] at c0 c1 c2;have d0:=hcur _ _ c0;have d1:=hcur _ _ c1;have d2:=hcur _ _ c2;refine⟨g,0,rfl,?_,?_,?_,?_⟩;all_goals try rw [XT]
  ·
   rw [ε _ g _ _ _ _ hr];unfold H8;by_cases e:k=q
   ·
    subst e;simp [Array.getElem?_setIfInBounds]
    omega
   ·
    rw [if_neg e];simp only [Array.getElem?_setIfInBounds]
    rw [if_neg (by omega),if_neg (by omega),if_neg (by omega)];exact d0
  ·
   rw [ε _ g _ _ _ _ hr];unfold H8;by_cases e:k=q
   ·
    subst e;simp [Array.getElem?_setIfInBounds]
    omega
   ·
    rw [if_neg e];simp only [Array.getElem?_setIfInBounds]
    rw [if_neg (by omega),if_neg (by omega),if_neg (by omega)];exact d1
  ·
   rw [ε _ g _ _ _ _ hr];unfold H8;by_cases e:k=q
   ·
    subst e;simp [Array.getElem?_setIfInBounds]
    omega
   ·
    rw [if_neg e];simp only [Array.getElem?_setIfInBounds]
    rw [if_neg (by omega),if_neg (by omega),if_neg (by omega)];exact d2
  ·
   unfold H8;split
   · exact hx
   · exact hs k hk
