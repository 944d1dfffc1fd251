import Derived.Test.YtfnfdllflgmhnaaGreatDoorUi
import Derived.Test.YtfnfdllflgmhnaaGreatDoorRy
open ByteArray renaming empty → XN
open Go renaming Value → XU, World → ο, Calls → XR, bodyPost_ret → XL, heap_alloc_new → η, results_cell_row → Xd, wpList_append_lies → XY, cell_of_row → ε, wpAnyH_done → XW, wp_region_held_drew → XO
open Go.Ending renaming returned → ρ
open Go.Ground renaming data → φ
open Go.IntKind renaming i64 → κ
open Go.Obj renaming cells → γ
open Go.Op renaming bytesLess → Xh
open Go.Operand renaming tmp → δ
open Go.Proofs.Tryz renaming prog → μ
open Go.RowKit renaming Below → υ, intOf → XX
open Go.RowKit.Below renaming refl → Xa
open Go.Value renaming slice → σ, agg → χ, bool → β, int → ι, string → τ, tuple → θ
open Go.World renaming size_setCell → Xl, news_of_block → XP, size_alloc → ω
open List renaming length_append → XQ
open Nat renaming le_trans → Xe, le_refl → XK, not_lt_zero → Xj
open Option renaming none → ν, some → ς
open Option.some renaming inj → XM
namespace Go.Proofs.YtfnfdllflgmhnaaGreatDoor
open Go.RowKit Go.Maps Go.WideMaps
def t0:Td:=⟨⟨#[]⟩,0,λ_=>⟨⟨#[]⟩,0⟩,0,λ_=>0,λ_ _=>d0⟩
def Pf(a b:ByteArray):Bool:=Xh a.toList b.toList || a.toList == b.toList
def Ez{α:Type}(b:Bool)(x:α):List α:=if b=true then [x] else []
theorem Ee{α:Type}{b:Bool}{x y:α}(h:y∈Ez b x):y=x:=by
 unfold Ez at h;split at h
 · simpa using h
 · cases h
theorem Dz{α:Type}(b:Bool)(x:α):(Ez b x).length=if b=true then 1 else 0:=by
 cases b <;> rfl
def GS(T:Nat->Td)(d:Td):Nat->List Td×Bool
 | 0=>([],false)
 | k+1=>(((GS T d k).1 ++ Ez (!(GS T d k).2 && Pf d.s (T k).s) d) ++ Ez (!((T k).s.toList == d.s.toList)) (T k),(GS T d k).2 || Pf d.s (T k).s)
def D8(T:Nat->Td)(d:Td)(n:Nat):List Td:=(GS T d n).1 ++ Ez (!(GS T d n).2) d
theorem JK{T:Nat->Td}{d:Td}{P:Td->Prop}(hd:P d):∀ {k:Nat},(∀ j,j<k->P (T j))->∀ x∈(GS T d k).1,P x
 | 0,_,x,hx=>by cases hx
 | k+1,h,x,hx=>by
  simp only [GS,List.mem_append] at hx
  rcases hx with (hx | hx) | hx
  · exact JK hd (λj hj=>h j (by omega)) x hx
  · rw [Ee hx];exact hd
  · rw [Ee hx];exact h k (by omega)
theorem OA{T:Nat->Td}{d:Td}{P:Td->Prop}(hd:P d){k:Nat}(h:∀ j,j<k->P (T j)):∀ x∈D8 T d k,P x:=λx hx=>by
 simp only [D8,List.mem_append] at hx
 rcases hx with hx | hx
 · exact JK hd h x hx
 · rw [Ee hx];exact hd
theorem Gj{T:Nat->Td}{d:Td}:∀ {k:Nat},(GS T d k).1.length<=k+(Ez (GS T d k).2 d).length
 | 0=>by simp [GS]
 | k+1=>by
  have ih:=Gj (T:=T) (d:=d) (k:=k);simp only [GS,XQ,Dz] at ih ⊢
  generalize GS T d k=q at ih ⊢;obtain⟨A,p⟩:=q;generalize Pf d.s (T k).s=b at ih ⊢;simp only at ih ⊢
  have hx:(if (!((T k).s.toList == d.s.toList))=true then 1 else 0)<=1:=by split <;> omega
  cases p <;> cases b <;> simp at ih hx⊢<;> omega
theorem N1{α:Type}(A:List α)(x y:α){i:Nat}(h:i<A.length):(A ++ [x]).getD i y=A.getD i y:=by
 simp [List.getElem?_append_left h]
theorem N0{α:Type}(A:List α)(x y:α):(A ++ [x]).getD A.length y=x:=by simp
theorem GO.snoc{α:Type}{T sz G:Nat}{D:Nat->Prop}{E:List XU->α->ο->Prop}{w w':ο}{v:XU}{A:List α}{x y:α}{g' cap':Nat}{f:Nat->List XU}{c:List XU}(h:GO T sz G D E w v A.length (λi=>A.getD i y) f)(hc:c.length=sz)(hl:Liv (λb=>D b/\ς b≠v.ownBlock) w (E c x))
 (hO:w'.ownsRow G T sz (σ (ς ⟨g',0,ν⟩) (A.length+1) cap') (A.length+1) (CH f A.length ++ c)) (hgr:w.grownBy w' v.ownBlock) (hat:v.ownBlock=ς g'∨g'=w.heap.size) :
 GO T sz G D E w' (σ (ς ⟨g',0,ν⟩) (A ++ [x]).length cap') (A ++ [x]).length (λi=>(A ++ [x]).getD i y) (λi=>if i<A.length then f i else c):=by
 have h2:GO T sz G D E w v A.length (λi=>(A ++ [x]).getD i y) f:=h.congr (λi hi=>N1 A x y hi);have h3:=GO.push h2 hc (by rw [N0];exact hl) hO hgr hat;rw [show (A ++ [x]).length=A.length+1 from by simp]
 exact h3
structure WS(w:ο)(X:Array XU)(W:ο)(A:List Td)(v:XU)(f:Nat->List XU):Prop where
 tt:TO (w.heap.size+4) (λb=>b<w.heap.size) W v A.length (λi=>A.getD i t0) f
 r1:W.heap[w.heap.size+1]?=ς (γ X 100 (0,0))
 r2:W.heap[w.heap.size+1+1]?=ς (γ #[σ ν 0 0] 45 (0,0))
 r3:W.heap[w.heap.size+1+1+1]?=ς (γ #[v] 45 (0,0))
 be:υ w.heap.size w W
 sz:w.heap.size+4<=W.heap.size
theorem WS.later{w W W':ο}{X:Array XU}{A:List Td}{v:XU}{f:Nat->List XU}(h:WS w X W A v f)(hb:υ W.heap.size W W'):WS w X W' A v f:=
 ⟨h.tt.later hb,AC h.r1 hb,AC h.r2 hb,AC h.r3 hb,AA h.be hb,Xe h.sz hb.size⟩
theorem WS.vb{w W:ο}{X:Array XU}{A:List Td}{v:XU}{f:Nat->List XU}(h:WS w X W A v f):∀ b,b<w.heap.size+4∨W.heap.size<=b->ς b≠v.ownBlock:=by
 intro b hbb;rcases Cx h.tt.own with ⟨rfl,-⟩ | ⟨g0,cap0,rfl⟩
 · intro e;cases e
 · have:=h.tt.own.lt g0 rfl;intro e;have e3:b=g0:=XM e;omega
theorem WS.push{w W w6:ο}{X:Array XU}{A:List Td}{v:XU}{f:Nat->List XU}{C:Obj}{c:List XU}{x:Td}{g6 cap6:Nat}(h:WS w X W A v f)(hl:Liv (λb=>b<w.heap.size) W (ET c x))(hc:c.length=3)
 (hO:w6.ownsRow (w.heap.size+4) 100 3 (σ (ς ⟨g6,0,ν⟩) (A.length+1) cap6) (A.length+1) (CH f A.length ++ c)) (hgr:(W.alloc C).grownBy w6 v.ownBlock) (hat:v.ownBlock=ς g6∨g6=(W.alloc C).heap.size) :
 WS w X (w6.setCell ⟨w.heap.size+1+1+1,0,ν⟩ (σ (ς ⟨g6,0,ν⟩) (A.length+1) cap6)) (A ++ [x]) (σ (ς ⟨g6,0,ν⟩) (A.length+1) cap6) (λi=>if i<A.length then f i else c):=by
 have h2:=h.later (AE W C);have hl2:=(hl.wide (Y:=λb=>b<w.heap.size/\ς b≠v.ownBlock) (λb hx _=>⟨hx,h.vb _ (by omega)⟩)).later (AE W C);have hp:=GO.snoc (x:=x) h2.tt hc hl2 hO hgr hat;have e:(A ++ [x]).length=A.length+1:=by simp
 have hp2:TO (w.heap.size+4) (λb=>b<w.heap.size) w6 (σ (ς ⟨g6,0,ν⟩) (A.length+1) cap6) (A ++ [x]).length (λi=>(A ++ [x]).getD i t0) (λi=>if i<A.length then f i else c):=by rw [e] at hp ⊢;exact hp
 refine⟨hp2.set (by omega) (by omega),AS (B9 h2.r1 hgr (h.vb _ (by omega))) (by omega),AS (B9 h2.r2 hgr (h.vb _ (by omega))) (by omega),CA (B9 h2.r3 hgr (h.vb _ (by omega))) _,Al (Ik h2.be hgr (λx hx=>h.vb _ (by omega))) (by omega),?_⟩;rw [Xl];exact Xe h2.sz hgr.size
theorem Ix{w W w6:ο}{v u:XU}{C:Obj}{q:Nat}{o:Obj}(hq:W.heap[q]?=ς o)(hgr:(W.alloc C).grownBy w6 v.ownBlock)(hv:ς q≠v.ownBlock)(h3:q≠w.heap.size+1+1+1):(w6.setCell ⟨w.heap.size+1+1+1,0,ν⟩ u).heap[q]?=ς o:=
 AS (B9 (AC hq (AE _ _)) hgr hv) h3
set_option maxRecDepth 20000
set_option maxHeartbeats 16000000
theorem FH{x y z:XU}(h:x.oneCell'=true)(h2:y.oneCell'=true)(h3:z.oneCell'=true):∀ u∈[x,y,z],u.oneCell'=true:=by
 intro u hu;simp only [List.mem_cons,List.not_mem_nil,or_false] at hu
 rcases hu with rfl | rfl | rfl
 · exact h
 · exact h2
 · exact h3
theorem FI{W:ο}{q:Nat}{x y z:XU}{t:TypeId}(hq:W.heap.size=q):∀ j u,[x,y,z][j]?=ς u->(W.alloc (γ #[x,y,z] t)).cell? ((⟨q,0,ν⟩:Addr).add j)=ς u:=by
 subst hq;exact XP (η W _)
theorem EZ(a:Option Addr)(n c:Nat)(T:Nat->Td)(ds:ByteArray)(dn:Nat)(dC:Nat->Clm)(dr:Nat)(dm:Nat->Nat)(dR:Nat->Nat->Itm)(ac:Option Addr)(cc:Nat)(ar:Option Addr)(cr:Nat)(d:Td)(hd:(⟨ds,dn,dC,dr,dm,dR⟩:Td)=d)(w:ο)(h:TL w a n T)(hC:CL w ac dn dC)(hR:OL w ar dr dm dR)(hS:Sm3 d)(hn:n<=1000000)(hF:Kg n T)(hdF:0<d.n/\∀ i,i<d.r->0<d.m i) :
 XR μ 132 #[χ #[σ a n c],χ #[τ ds,σ ac dn cc,σ ar dr cr]] w λe w'=>∃ a' c',e=ρ (χ #[σ a' (D8 T d n).length c'])/\Liv (λb=>w.heap.size<=b) w' (λv=>TL v a' (D8 T d n).length (λi=>(D8 T d n).getD i t0))/\υ w.heap.size w w':=by
 have HD:Hid (d=⟨ds,dn,dC,dr,dm,dR⟩):=hd.symm;have HS:Hid (Sm3 d):=hS;have HdC:=hC.lb;have HdR:=hR.lb;have HFL:Hid (Kg (D8 T d n).length (λi=>(D8 T d n).getD i t0)):=by
  intro k hk;have e:(D8 T d n).getD k t0=(D8 T d n)[k]:=by simp [hk]
  show 0<((D8 T d n).getD k t0).n/\∀ i,i<((D8 T d n).getD k t0).r->0<((D8 T d n).getD k t0).m i
  rw [e];exact OA (P:=λx=>0<x.n/\∀ i,i<x.r->0<x.m i) hdF hF _ (List.getElem_mem hk)
 have hds:d.s=ds:=by rw [←hd]
 have HDS:Hid (d.s=ds):=hds;have hwl:(D8 T d n).length<=1000002:=by
  have:=Gj (T:=T) (d:=d) (k:=n);simp only [D8,XQ,Dz] at this ⊢
  split at this <;> split <;> omega
 have HWLN:Hid ((D8 T d n).length<=1000002):=hwl;clear hd hC hR hS hF hdF hds hwl;obtain⟨jt,hit,hzt0,hzt1,hzt2⟩:=info_parts Tryz.infoTab;have HIt:Hid (Tryz.prog.info? 100=ς jt):=hit;clear hit;have hbU:υ w.heap.size w ((((w.alloc (γ #[σ a n c] 45)).alloc (γ #[τ ds,σ ac dn cc,σ ar dr cr] 100)).alloc (γ #[σ ν 0 0] 45)).alloc (γ #[σ ν 0 0] 45)):=AA (A7 _ _ _ _) (AE _ _);have hsU:((((w.alloc (γ #[σ a n c] 45)).alloc (γ #[τ ds,σ ac dn cc,σ ar dr cr] 100)).alloc (γ #[σ ν 0 0] 45)).alloc (γ #[σ ν 0 0] 45)).heap.size=w.heap.size+4:=by rw [ω,ω,ω,ω]
 have hq1:((((w.alloc (γ #[σ a n c] 45)).alloc (γ #[τ ds,σ ac dn cc,σ ar dr cr] 100)).alloc (γ #[σ ν 0 0] 45)).alloc (γ #[σ ν 0 0] 45)).heap[w.heap.size+1]?=ς (γ #[τ ds,σ ac dn cc,σ ar dr cr] 100 (0,0)):=by
  have q:=η (w.alloc (γ #[σ a n c] 45)) (γ #[τ ds,σ ac dn cc,σ ar dr cr] 100);rw [ω] at q;exact AC (AC q (AE _ _)) (AE _ _)
 have hq2:((((w.alloc (γ #[σ a n c] 45)).alloc (γ #[τ ds,σ ac dn cc,σ ar dr cr] 100)).alloc (γ #[σ ν 0 0] 45)).alloc (γ #[σ ν 0 0] 45)).heap[w.heap.size+1+1]?=ς (γ #[σ ν 0 0] 45 (0,0)):=by
  have q:=η ((w.alloc (γ #[σ a n c] 45)).alloc (γ #[τ ds,σ ac dn cc,σ ar dr cr] 100)) (γ #[σ ν 0 0] 45);rw [ω,ω] at q;exact AC q (AE _ _)
 have hq3:((((w.alloc (γ #[σ a n c] 45)).alloc (γ #[τ ds,σ ac dn cc,σ ar dr cr] 100)).alloc (γ #[σ ν 0 0] 45)).alloc (γ #[σ ν 0 0] 45)).heap[w.heap.size+1+1+1]?=ς (γ #[σ ν 0 0] 45 (0,0)):=by
  have q:=η (((w.alloc (γ #[σ a n c] 45)).alloc (γ #[τ ds,σ ac dn cc,σ ar dr cr] 100)).alloc (γ #[σ ν 0 0] 45)) (γ #[σ ν 0 0] 45);rw [ω,ω,ω] at q;exact q
 have hWS0:WS w #[τ ds,σ ac dn cc,σ ar dr cr] ((((w.alloc (γ #[σ a n c] 45)).alloc (γ #[τ ds,σ ac dn cc,σ ar dr cr] 100)).alloc (γ #[σ ν 0 0] 45)).alloc (γ #[σ ν 0 0] 45)) [] (σ ν 0 0) (λ_=>[]):=⟨GO.nil (World.ownsRow_nil _ _ _ _),hq1,hq2,hq3,hbU,by rw [hsU];exact XK _⟩;clear hq1 hq2 hq3 hbU hsU;go_enter Tryz.func132,Tryz.ntmps132
 go_wp2;go_loopw [6,8,13] (λpb _ i wr=>∃ (k:Nat) (A:List Td) (p:Bool) (v:XU) (f:Nat->List XU),k<=n/\i=ι κ k/\pb=β p/\GS T d k=(A,p)/\WS w #[τ ds,σ ac dn cc,σ ar dr cr] wr A v f) (λ_ _ i _=>n - (XX i).toNat)
 case atStart=>exact⟨0,[],false,σ ν 0 0,λ_=>[],by omega,rfl,rfl,rfl,hWS0⟩
 case round=>
  obtain⟨k,A,p,v,f,hk,rfl,rfl,hwt,hWS⟩:=hrel;have HWT:Hid (GS T d k=(A,p)):=hwt;have hAl:A.length<=k+1:=by
   have:=Gj (T:=T) (d:=d) (k:=k);rw [hwt] at this;simp only [Dz] at this
   split at this <;> omega
  clear hwt;have hb:=hWS.be;have hsz:=hWS.sz;have HLD:Hid (∀ W,υ w.heap.size w W->Liv (λb=>b<w.heap.size) W (ET [τ ds,σ ac dn cc,σ ar dr cr] d)):=λW hW=>((HdC.and HdR).later hW).imp (λ_ h=>by rw [HD.out];have:=HS.out;rw [HD.out] at this;exact⟨_,_,_,_,rfl,h.1,h.2,this⟩);by_cases hlt:k<n
  rotate_left
  ·
   obtain rfl:k=n:=by omega
   have HWL:Hid (D8 T d k=A ++ Ez (!p) d):=by show _=_;unfold D8;rw [HWT.out]
   obtain⟨x0,x1,x2,-⟩:=AX hWS.r1;obtain⟨y0,yf0⟩:=AN hWS.r2;obtain⟨z0,zf0⟩:=AN hWS.r3;cases p
   ·
    go_wp2_with (first | (go_at_call 74;have _h:=hW6;refine(CQ (ς ⟨g6,0,ν⟩) (A.length+1) cap6 (λi=>(D8 T d k).getD i t0) _ hTL (by omega) (by rw [←HLN.out];exact HFL.out)).mono ?_;rintro e w8 ⟨a8,c8,rfl,hTL8,hb8⟩;have hr8:=AC hW6.r2 hb8;obtain⟨m8,n8⟩:=AN hr8) | (at_builtin;refine XY _ rfl _ _ _ rfl (w.heap.size+4) 100 jt (χ #[τ XN,σ ν 0 0,σ ν 0 0]) 3 64 Tryz.underlying43 HIt.out hzt0 hzt1 hzt2 rfl (by omega) (v) A.length (CH f A.length) rfl (hWS.later (AE _ _)).tt.own ⟨wr.heap.size,0,ν⟩ 1 1 [τ ds,σ ac dn cc,σ ar dr cr] rfl rfl (FI (by first | rfl | simp)) (FH rfl rfl rfl) (by omega) (by unfold maxLen;omega) (by omega) (hWS.later (AE _ _)).sz _ rfl ?_;intro g6 cap6 w6 hO6 hgr6 hat6 hlt6;have hm6:=B9 (AC hWS.r3 (AE _ _)) hgr6 (hWS.vb _ (by omega));obtain⟨mm6,nn6⟩:=AN hm6;have hW6:=hWS.push (x:=d) (HLD.out _ hWS.be) rfl hO6 hgr6 hat6;obtain⟨l0,lf0⟩:=AN hW6.r3;obtain⟨a1,c1,hv,hTL⟩:=TO.tl hW6.tt;obtain⟨rfl,rfl⟩:ς ⟨g6,0,ν⟩=a1/\cap6=c1:=(by simpa using hv);have hwe:A ++ [d]=D8 T d k:=(by rw [HWL.out];simp [Ez]);rw [show (A ++ [d]).length=A.length+1 from (by simp),hwe] at hTL;have HLN:Hid ((D8 T d k).length=A.length+1):=(by show _=_;rw [←hwe];simp);clear hwe hv))
    rw [HLN.out];refine XL (v:=χ #[σ a8 (A.length+1) c8]) ?_ rfl ?_
    · exact Xd Tryz.results132 _ _ (w.heap.size+1+1) 45 _ (0,0) _ rfl (CA hr8 _) Tryz.underlying45 rfl (by kernel_rfl)
    · exact⟨a8,c8,rfl,(hTL8.wide (Y:=λb=>w.heap.size+4<=b) (λb hb _=>Xe hW6.sz hb)).set (by omega) |>.wide (λb hb _=>by omega),Al (AA hW6.be hb8) (by omega)⟩
   ·
    obtain⟨a1,c1,hv,hTL⟩:=TO.tl hWS.tt;rw [show A=D8 T d k from by rw [HWL.out];simp [Ez]] at hTL hv
    subst hv;go_wp2_with (first | (go_at_call 74;refine(CQ a1 (D8 T d k).length c1 (λi=>(D8 T d k).getD i t0) _ hTL (by have:=HWLN.out;omega) HFL.out).mono ?_;rintro e w8 ⟨a8,c8,rfl,hTL8,hb8⟩;have hr8:=AC hWS.r2 hb8;obtain⟨m8,n8⟩:=AN hr8))
    refine XL (v:=χ #[σ a8 (D8 T d k).length c8]) ?_ rfl ?_
    · exact Xd Tryz.results132 _ _ (w.heap.size+1+1) 45 _ (0,0) _ rfl (CA hr8 _) Tryz.underlying45 rfl (by kernel_rfl)
    · exact⟨a8,c8,rfl,(hTL8.wide (Y:=λb=>w.heap.size+4<=b) (λb hb _=>Xe hWS.sz hb)).set (by omega) |>.wide (λb hb _=>by omega),Al (AA hWS.be hb8) (by omega)⟩
  obtain⟨b,off,kc,kcc,kr,kcr,rfl,e0,e1,e2,hkC,hkR,hkS⟩:=h k hlt;have hLK:=hkC.lb.and hkR.lb;obtain⟨ks,kn,kC,kR,km,kO,hTk⟩:∃ s nc C r m R,T k=⟨s,nc,C,r,m,R⟩:=⟨_,_,_,_,_,_,rfl⟩;have HTK:Hid (T k=⟨ks,kn,kC,kR,km,kO⟩):=hTk;have HLK:Hid (∀ W,υ w.heap.size w W->Liv (λb=>b<w.heap.size) W (ET [τ ks,σ kc kn kcc,σ kr kR kcr] (T k))):=λW hW=>(hLK.later hW).imp (λ_ h=>by rw [hTk] at h hkS ⊢;exact⟨_,_,_,_,rfl,h.1,h.2,hkS⟩);rw [hTk] at e0 e1 e2;simp only at e0 e1 e2
  have f0:=AB hb e0;have f1:=AB hb e1;have f2:=AB hb e2;clear e0 e1 e2 hTk hkC hkR hkS hLK;have hkn:(k:Int)<n:=by omega
  have hW5:=hWS.later (AE wr (γ #[τ ks,σ kc kn kcc,σ kr kR kcr] 100));have hrT:=η wr (γ #[τ ks,σ kc kn kcc,σ kr kR kcr] 100);have hs5:(wr.alloc (γ #[τ ks,σ kc kn kcc,σ kr kR kcr] 100)).heap.size=wr.heap.size+1:=ω _ _;obtain⟨x0,x1,x2,-⟩:=AX hW5.r1;obtain⟨z0,zf0⟩:=AN hW5.r3;cases p
  ·
   rcases hb1:Xh ds.toList ks.toList
   ·
    rcases hb2:ds.toList == ks.toList
    ·
     rcases he:ks.toList == ds.toList
     ·
      skip
      go_wp2_with (first | (at_builtin;refine XY _ rfl _ _ _ rfl (w.heap.size+4) 100 jt (χ #[τ XN,σ ν 0 0,σ ν 0 0]) 3 64 Tryz.underlying43 HIt.out hzt0 hzt1 hzt2 rfl (by omega) (v) A.length (CH f A.length) rfl (hW5.later (AE _ _)).tt.own ⟨wr.heap.size+1,0,ν⟩ 1 1 [τ ks,σ kc kn kcc,σ kr kR kcr] rfl rfl (FI (by first | rfl | simp)) (FH rfl rfl rfl) (by omega) (by unfold maxLen;omega) (by omega) (hW5.later (AE _ _)).sz _ rfl ?_;intro g6 cap6 w6 hO6 hgr6 hat6 hlt6;have hm6:=B9 (AC hW5.r3 (AE _ _)) hgr6 (hW5.vb _ (by omega));obtain⟨mm6,nn6⟩:=AN hm6))
      have hW6:=hW5.push (x:=T k) (HLK.out _ hW5.be) rfl hO6 hgr6 hat6;go_roundw
      case rel=>exact⟨k+1,A ++ [T k],false,_,_,by omega,by go_num,rfl,by simp only [GS];rw [HWT.out,HTK.out,HDS.out];simp [Ez,Pf,hb1,hb2,he],hW6⟩
      case measure=>simp [XX];omega
     ·
      exfalso
      have:=eq_of_beq he;rw [this] at hb2;simp at hb2
    ·
     rcases he:ks.toList == ds.toList
     ·
      exfalso
      have:=eq_of_beq hb2;rw [this] at he;simp at he
     ·
      skip
      go_wp2_with (first | (at_builtin;refine XY _ rfl _ _ _ rfl (w.heap.size+4) 100 jt (χ #[τ XN,σ ν 0 0,σ ν 0 0]) 3 64 Tryz.underlying43 HIt.out hzt0 hzt1 hzt2 rfl (by omega) (v) A.length (CH f A.length) rfl (hW5.later (AE _ _)).tt.own ⟨wr.heap.size+1,0,ν⟩ 1 1 [τ ds,σ ac dn cc,σ ar dr cr] rfl rfl (FI (by first | rfl | simp)) (FH rfl rfl rfl) (by omega) (by unfold maxLen;omega) (by omega) (hW5.later (AE _ _)).sz _ rfl ?_;intro g6 cap6 w6 hO6 hgr6 hat6 hlt6;have hm6:=B9 (AC hW5.r3 (AE _ _)) hgr6 (hW5.vb _ (by omega));obtain⟨mm6,nn6⟩:=AN hm6;have hW6:=hW5.push (x:=d) (HLD.out _ hW5.be) rfl hO6 hgr6 hat6;have hT6:=Ix (w:=w) (u:=σ (ς ⟨g6,0,ν⟩) (A.length+1) cap6) hrT hgr6 (hWS.vb _ (by omega)) (by omega);obtain⟨t0,t1,t2,-⟩:=AX hT6;obtain⟨d0_,d1_,d2_,-⟩:=AX hW6.r1;obtain⟨l0,lf0⟩:=AN hW6.r3))
      go_roundw
      case rel=>exact⟨k+1,A ++ [d],true,_,_,by omega,by go_num,rfl,by simp only [GS];rw [HWT.out,HTK.out,HDS.out];simp [Ez,Pf,hb1,hb2,he],hW6⟩
      case measure=>simp [XX];omega
   ·
    rcases he:ks.toList == ds.toList
    ·
     skip
     go_wp2_with (first | (at_builtin;have _h:=hW6;refine XY _ rfl _ _ _ rfl (w.heap.size+4) 100 jt (χ #[τ XN,σ ν 0 0,σ ν 0 0]) 3 64 Tryz.underlying43 HIt.out hzt0 hzt1 hzt2 rfl (by omega) (σ (ς ⟨g6,0,ν⟩) (A.length+1) cap6) (A ++ [d]).length (CH (λi=>if i<A.length then f i else [τ ds,σ ac dn cc,σ ar dr cr]) (A ++ [d]).length) rfl (hW6.later (AE _ _)).tt.own ⟨w6.heap.size,0,ν⟩ 1 1 [τ ks,σ kc kn kcc,σ kr kR kcr] rfl rfl (FI (by first | rfl | simp)) (FH rfl rfl rfl) (by omega) (by unfold maxLen;simp;omega) (by simp;omega) (hW6.later (AE _ _)).sz _ rfl ?_;intro g7 cap7 w7 hO7 hgr7 hat7 hlt7;have hm7:=B9 (AC hW6.r3 (AE _ _)) hgr7 (hW6.vb _ (by omega));obtain⟨mm7,nn7⟩:=AN hm7) | (at_builtin;refine XY _ rfl _ _ _ rfl (w.heap.size+4) 100 jt (χ #[τ XN,σ ν 0 0,σ ν 0 0]) 3 64 Tryz.underlying43 HIt.out hzt0 hzt1 hzt2 rfl (by omega) (v) A.length (CH f A.length) rfl (hW5.later (AE _ _)).tt.own ⟨wr.heap.size+1,0,ν⟩ 1 1 [τ ds,σ ac dn cc,σ ar dr cr] rfl rfl (FI (by first | rfl | simp)) (FH rfl rfl rfl) (by omega) (by unfold maxLen;omega) (by omega) (hW5.later (AE _ _)).sz _ rfl ?_;intro g6 cap6 w6 hO6 hgr6 hat6 hlt6;have hm6:=B9 (AC hW5.r3 (AE _ _)) hgr6 (hW5.vb _ (by omega));obtain⟨mm6,nn6⟩:=AN hm6;have hW6:=hW5.push (x:=d) (HLD.out _ hW5.be) rfl hO6 hgr6 hat6;have hT6:=Ix (w:=w) (u:=σ (ς ⟨g6,0,ν⟩) (A.length+1) cap6) hrT hgr6 (hWS.vb _ (by omega)) (by omega);obtain⟨t0,t1,t2,-⟩:=AX hT6;obtain⟨d0_,d1_,d2_,-⟩:=AX hW6.r1;obtain⟨l0,lf0⟩:=AN hW6.r3))
     have hW7:=hW6.push (x:=T k) (HLK.out _ hW6.be) rfl hO7 hgr7 hat7;rw [show (A ++ [d]).length+1=A.length+1+1 from by simp] at hW7
     go_roundw
     case rel=>exact⟨k+1,A ++ [d] ++ [T k],true,_,_,by omega,by go_num,rfl,by simp only [GS];rw [HWT.out,HTK.out,HDS.out];simp [Ez,Pf,hb1,he],hW7⟩
     case measure=>simp [XX];omega
    ·
     skip
     go_wp2_with (first | (at_builtin;refine XY _ rfl _ _ _ rfl (w.heap.size+4) 100 jt (χ #[τ XN,σ ν 0 0,σ ν 0 0]) 3 64 Tryz.underlying43 HIt.out hzt0 hzt1 hzt2 rfl (by omega) (v) A.length (CH f A.length) rfl (hW5.later (AE _ _)).tt.own ⟨wr.heap.size+1,0,ν⟩ 1 1 [τ ds,σ ac dn cc,σ ar dr cr] rfl rfl (FI (by first | rfl | simp)) (FH rfl rfl rfl) (by omega) (by unfold maxLen;omega) (by omega) (hW5.later (AE _ _)).sz _ rfl ?_;intro g6 cap6 w6 hO6 hgr6 hat6 hlt6;have hm6:=B9 (AC hW5.r3 (AE _ _)) hgr6 (hW5.vb _ (by omega));obtain⟨mm6,nn6⟩:=AN hm6;have hW6:=hW5.push (x:=d) (HLD.out _ hW5.be) rfl hO6 hgr6 hat6;have hT6:=Ix (w:=w) (u:=σ (ς ⟨g6,0,ν⟩) (A.length+1) cap6) hrT hgr6 (hWS.vb _ (by omega)) (by omega);obtain⟨t0,t1,t2,-⟩:=AX hT6;obtain⟨d0_,d1_,d2_,-⟩:=AX hW6.r1;obtain⟨l0,lf0⟩:=AN hW6.r3))
     go_roundw
     case rel=>exact⟨k+1,A ++ [d],true,_,_,by omega,by go_num,rfl,by simp only [GS];rw [HWT.out,HTK.out,HDS.out];simp [Ez,Pf,hb1,he],hW6⟩
     case measure=>simp [XX];omega
  ·
   rcases he:ks.toList == ds.toList
   ·
    skip
    go_wp2_with (first | (at_builtin;refine XY _ rfl _ _ _ rfl (w.heap.size+4) 100 jt (χ #[τ XN,σ ν 0 0,σ ν 0 0]) 3 64 Tryz.underlying43 HIt.out hzt0 hzt1 hzt2 rfl (by omega) (v) A.length (CH f A.length) rfl (hW5.later (AE _ _)).tt.own ⟨wr.heap.size+1,0,ν⟩ 1 1 [τ ks,σ kc kn kcc,σ kr kR kcr] rfl rfl (FI (by first | rfl | simp)) (FH rfl rfl rfl) (by omega) (by unfold maxLen;omega) (by omega) (hW5.later (AE _ _)).sz _ rfl ?_;intro g6 cap6 w6 hO6 hgr6 hat6 hlt6;have hm6:=B9 (AC hW5.r3 (AE _ _)) hgr6 (hW5.vb _ (by omega));obtain⟨mm6,nn6⟩:=AN hm6))
    have hW6:=hW5.push (x:=T k) (HLK.out _ hW5.be) rfl hO6 hgr6 hat6;go_roundw
    case rel=>exact⟨k+1,A ++ [T k],true,_,_,by omega,by go_num,rfl,by simp only [GS];rw [HWT.out,HTK.out,HDS.out];simp [Ez,Pf,he],hW6⟩
    case measure=>simp [XX];omega
   ·
    skip
    go_wp2;go_roundw
    case rel=>exact⟨k+1,A,true,v,f,by omega,by go_num,rfl,by simp only [GS];rw [HWT.out,HTK.out,HDS.out];simp [Ez,Pf,he],hW5⟩
    case measure=>simp [XX];omega
def C8(T:Nat->Td)(n:Nat):List Td:=(List.range n).map T
theorem Gm(T:Nat->Td)(n:Nat):(C8 T n).length=n:=by simp [C8]
theorem OJ(T:Nat->Td){n i:Nat}(h:i<n):(C8 T n).getD i t0=T i:=by simp [C8,h]
def LN(w:ο)(A:List Td)(cd:Int)(e:Ending)(w':ο):Prop:=∃ a' c',e=ρ (θ #[χ #[σ a' A.length c'],ι κ cd])/\Liv (λb=>w.heap.size<=b) w' (λv=>TL v a' A.length (λi=>A.getD i t0))/\υ w.heap.size w w'
theorem TL.congr{w:ο}{a:Option Addr}{n:Nat}{T T':Nat->Td}(h:TL w a n T)(e:∀ k,k<n->T' k=T k):TL w a n T':=λk hk=>by
 rw [e k hk];exact h k hk
theorem TL.list{w:ο}{a:Option Addr}{n:Nat}{T:Nat->Td}(h:TL w a n T):TL w a (C8 T n).length (λi=>(C8 T n).getD i t0):=by
 rw [Gm];exact h.congr (λk hk=>OJ T hk)
theorem BI{w W w2:ο}{a':Option Addr}{c' R n:Nat}{T:Nat->Td}{v:XU}(hW:υ w.heap.size w W)(hL:Liv (λb=>W.heap.size<=b) w2 (λv=>TL v a' n T))(hb:υ W.heap.size W w2)(hR:w.heap.size<=R)(hR2:R<W.heap.size)(cd:Int):LN w (C8 T n) cd (ρ (θ #[χ #[σ a' n c'],ι κ cd])) (w2.setCell ⟨R,0,ν⟩ v):=
 ⟨a',c',by rw [Gm],((hL.set (B:=R) (by omega)).wide (λb hb' _=>by have:=hW.size;omega)).imp (λ_ h=>h.list),Al (AA hW hb) hR⟩
theorem Cm{w W w2:ο}{a':Option Addr}{c' R:Nat}{A:List Td}{v:XU}(hW:υ w.heap.size w W)(hL:Liv (λb=>W.heap.size<=b) w2 (λv=>TL v a' A.length (λi=>A.getD i t0)))(hb:υ W.heap.size W w2)(hR:w.heap.size<=R)(hR2:R<W.heap.size)(cd:Int):LN w A cd (ρ (θ #[χ #[σ a' A.length c'],ι κ cd])) (w2.setCell ⟨R,0,ν⟩ v):=
 ⟨a',c',rfl,(hL.set (B:=R) (by omega)).wide (λb hb' _=>by have:=hW.size;omega),Al (AA hW hb) hR⟩
def LE(T:Nat->Td)(n:Nat)(tb:ByteArray)(n2:Nat)(C:Nat->Clm):List Td×Int:=
 if (Bn T tb n).isSome=true then (C8 T n,2) else if FE C n2=false then (C8 T n,3) else if n=100 then (C8 T n,6) else (D8 T ⟨tb,n2,C,0,λ_=>0,λ_ _=>d0⟩ n,0)
theorem QB{C:Nat->Clm}{n j:Nat}(hj:j<n)(h:Ah C (C j).s j=true):FE C n=false:=Ae hj (by rw [h];rfl)
theorem Ak{W:ο}{R:Nat}{x0 x1 x2 x3 x4 x5 x6 x7:XU}{t:TypeId}(h:W.heap[R]?=ς (γ #[x0,x1,x2,x3,x4,x5,x6,x7] t (0,0))):W.cell? ⟨R,0,ν⟩=ς x0/\W.cell? ⟨R,1,ν⟩=ς x1/\W.cell? ⟨R,2,ν⟩=ς x2/\W.cell? ⟨R,3,ν⟩=ς x3/\W.cell? ⟨R,4,ν⟩=ς x4/\W.cell? ⟨R,5,ν⟩=ς x5/\W.cell? ⟨R,6,ν⟩=ς x6/\W.cell? ⟨R,7,ν⟩=ς x7:=
 ⟨ε _ _ 0 _ _ _ h,ε _ _ 1 _ _ _ h,ε _ _ 2 _ _ _ h,ε _ _ 3 _ _ _ h,ε _ _ 4 _ _ _ h,ε _ _ 5 _ _ _ h,ε _ _ 6 _ _ _ h,ε _ _ 7 _ _ _ h⟩
theorem Od(a:Option Addr)(n c:Nat)(T:Nat->Td)(k0:Int)(tb:ByteArray)(a2:Option Addr)(n2 c2:Nat)(a3:Option Addr)(n3 c3:Nat)(col:ByteArray)(a5:Option Addr)(n5 c5:Nat)(a6:Option Addr)(n6 c6:Nat)(a7:Option Addr)(n7 c7:Nat)(C:Nat->Clm)(w:ο)(h:TL w a n T)(hC:CL w a2 n2 C)(hn:n<=1000000)(hF:Kg n T)(h20:0<n2)(h2m:n2<=1048576)(hcap:n2<=c2)(htb:tb.size<=1048576) :
 XR μ 73 #[χ #[σ a n c],χ #[ι κ k0,τ tb,σ a2 n2 c2,σ a3 n3 c3,τ col,σ a5 n5 c5,σ a6 n6 c6,σ a7 n7 c7]] w (LN w (LE T n tb n2 C).1 (LE T n tb n2 C).2):=by
 have HF:Hid (Kg n T):=hF;clear hF;have hbU:υ w.heap.size w (((w.alloc (γ #[σ a n c] 45)).alloc (γ #[ι κ k0,τ tb,σ a2 n2 c2,σ a3 n3 c3,τ col,σ a5 n5 c5,σ a6 n6 c6,σ a7 n7 c7] 64)).alloc (γ #[σ ν 0 0] 45)):=A7 _ _ _ _;have hsU:(((w.alloc (γ #[σ a n c] 45)).alloc (γ #[ι κ k0,τ tb,σ a2 n2 c2,σ a3 n3 c3,τ col,σ a5 n5 c5,σ a6 n6 c6,σ a7 n7 c7] 64)).alloc (γ #[σ ν 0 0] 45)).heap.size=w.heap.size+3:=by rw [ω,ω,ω]
 have hq0:(((w.alloc (γ #[σ a n c] 45)).alloc (γ #[ι κ k0,τ tb,σ a2 n2 c2,σ a3 n3 c3,τ col,σ a5 n5 c5,σ a6 n6 c6,σ a7 n7 c7] 64)).alloc (γ #[σ ν 0 0] 45)).heap[w.heap.size]?=ς (γ #[σ a n c] 45 (0,0)):=AC (AC (η w _) (AE _ _)) (AE _ _);have hq1:(((w.alloc (γ #[σ a n c] 45)).alloc (γ #[ι κ k0,τ tb,σ a2 n2 c2,σ a3 n3 c3,τ col,σ a5 n5 c5,σ a6 n6 c6,σ a7 n7 c7] 64)).alloc (γ #[σ ν 0 0] 45)).heap[w.heap.size+1]?=ς (γ #[ι κ k0,τ tb,σ a2 n2 c2,σ a3 n3 c3,τ col,σ a5 n5 c5,σ a6 n6 c6,σ a7 n7 c7] 64 (0,0)):=by
  have q:=η (w.alloc (γ #[σ a n c] 45)) (γ #[ι κ k0,τ tb,σ a2 n2 c2,σ a3 n3 c3,τ col,σ a5 n5 c5,σ a6 n6 c6,σ a7 n7 c7] 64);rw [ω] at q;exact AC q (AE _ _)
 have hq2:(((w.alloc (γ #[σ a n c] 45)).alloc (γ #[ι κ k0,τ tb,σ a2 n2 c2,σ a3 n3 c3,τ col,σ a5 n5 c5,σ a6 n6 c6,σ a7 n7 c7] 64)).alloc (γ #[σ ν 0 0] 45)).heap[w.heap.size+1+1]?=ς (γ #[σ ν 0 0] 45 (0,0)):=by
  have q:=η ((w.alloc (γ #[σ a n c] 45)).alloc (γ #[ι κ k0,τ tb,σ a2 n2 c2,σ a3 n3 c3,τ col,σ a5 n5 c5,σ a6 n6 c6,σ a7 n7 c7] 64)) (γ #[σ ν 0 0] 45);rw [ω,ω] at q;exact q
 rcases ht:Bn T tb n with _ | j
 rotate_left
 ·
  have HA:Hid (LE T n tb n2 C=(C8 T n,2)):=by show _=_;unfold LE;rw [ht];rfl
  have hz:Hj (Bn T tb n)=(j:Int):=by rw [ht];rfl
  clear ht;have hj0:(0:Int)<=(j:Int):=by omega
  go_enter Tryz.func73,Tryz.ntmps73
  go_wp2_with (first | (go_at_call 45;refine(Fq a n c T tb _ (h.later hbU) (by omega)).mono ?_;rintro e w1 ⟨rfl,hb1⟩;rw [hz];have r0:=AC hq0 hb1;have r2:=AC hq2 hb1;obtain⟨m0,-⟩:=AN r0) | (go_at_call 74;refine(CQ a n c T _ (h.later (AA hbU hb1)) (by omega) HF.out).mono ?_;rintro e w2 ⟨a8,c8,rfl,hL8,hb8⟩;have s2:=AC r2 hb8;obtain⟨m2,f2⟩:=AN s2))
  refine XL (AF Tryz.results73 _ _ (w.heap.size+1+1) 45 _ (0,0) _ rfl (CA s2 _) Tryz.underlying45 rfl (by kernel_rfl)) rfl ?_;rw [HA.out];exact BI (AA hbU hb1) hL8 hb8 (by omega) (by have:=hb1.size;omega) 2
 have HT:Hid (Bn T tb n=ν):=ht;have hz:Hj (Bn T tb n)=-1:=by rw [ht];rfl
 clear ht;obtain⟨b2,off2,rfl,-⟩:=hC 0 h20;go_enter Tryz.func73,Tryz.ntmps73
 go_wp2_with (first | (go_at_call 45;refine(Fq a n c T tb _ (h.later hbU) (by omega)).mono ?_;rintro e w1 ⟨rfl,hb1⟩;rw [hz];have r0:=AC hq0 hb1;have r1:=AC hq1 hb1;have r2:=AC hq2 hb1;obtain⟨m0,-⟩:=AN r0;obtain⟨-,m1,m2,-⟩:=Ak r1))
 have hb10:=AA hbU hb1;have hs1:=hb1.size;go_loopw [6,7,18] (λ_ _ i wr=>∃ k:Nat,k<=n2/\i=ι κ k/\(∀ j,j<k->Ah C (C j).s j=false)/\υ w1.heap.size w1 wr) (λ_ _ i _=>n2 - (XX i).toNat)
 case atStart=>exact⟨0,by omega,rfl,λj hj=>by omega,Xa _ _⟩
 case round=>
  obtain⟨k,hk,rfl,hno,hbr⟩:=hrel;have HNO:Hid (∀ j,j<k->Ah C (C j).s j=false):=hno;clear hno;have q0:=AC r0 hbr;have q1:=AC r1 hbr;have q2:=AC r2 hbr;obtain⟨u0,-⟩:=AN q0;obtain⟨-,u1,u2,-⟩:=Ak q1;have hbw:=AA hb10 hbr;have hsr:=hbr.size;by_cases hlt:k<n2
  ·
   obtain⟨b3,off3,e3,c0,c1,hs3⟩:=hC.later hbw k hlt;obtain⟨rfl,rfl⟩:b2=b3/\off2=off3:=by simpa using e3
   clear e3;have hkn:(k:Int)<n2:=by omega
   have hkc:(k:Int)<=c2:=by omega
   have hkc2:k<=c2:=by omega
   have hk0:(0:Int)<=k:=by omega
   have v2:=AB (AE wr (γ #[τ (C k).s,ι κ (C k).t] 92)) u2;have hnew:=(ε _ _ 0 _ _ _ (η wr (γ #[τ (C k).s,ι κ (C k).t] 92)));have hCk:=hC.later (AA hbw (AE wr (γ #[τ (C k).s,ι κ (C k).t] 92)));go_upto_region 6 with (go_at_call 81;fail)
   refine XO (S:=λx=>υ (wr.alloc (γ #[τ (C k).s,ι κ (C k).t] 92)).heap.size (wr.alloc (γ #[τ (C k).s,ι κ (C k).t] 92)) x) (by kernel_rfl) (BC _) (λjH=>?_);refine tk 0 (⟨ς 23,.fieldAddr 64 (δ 3) 2,0,"l5_replay.go:266",#[],ν⟩:Oper) (λx jS=>by go_simp<;>rfl) jH ?_
   try simp only [zS]
   refine tk 1 (⟨ς 24,.load 59 (δ 23),59,"l5_replay.go:266",#[⟨0,φ⟩],ν⟩:Oper) (λx jS=>by have k0:=AB jS v2;have k1:=AB jS hnew;go_simp<;>rfl) jH ?_
   try simp only [zS]
   refine tk 2 (⟨ς 25,.move (δ 6),3,"l5_replay.go:266",#[],ν⟩:Oper) (λx jS=>by go_simp<;>rfl) jH ?_
   try simp only [zS]
   refine tk 3 (⟨ς 26,.slice 59 (δ 24) ν (ς (δ 25)) ν,59,"l5_replay.go:266",#[⟨1,φ⟩,⟨2,φ⟩],ν⟩:Oper) (λx jS=>by go_simp<;>rfl) jH ?_
   try simp only [zS]
   refine tk 4 (⟨ς 27,.fieldAddr 92 (δ 7) 0,0,"l5_replay.go:266",#[],ν⟩:Oper) (λx jS=>by go_simp<;>rfl) jH ?_
   try simp only [zS]
   refine tk 5 (⟨ς 28,.load 9 (δ 27),9,"l5_replay.go:266",#[⟨4,φ⟩],ν⟩:Oper) (λx jS=>by have k0:=AB jS v2;have k1:=AB jS hnew;go_simp<;>rfl) jH ?_
   try simp only [zS]
   refine rd 6 (⟨ς 29,.call ⟨.value (.func 81),#[δ 26,δ 28],#[59,9]⟩,3,"l5_replay.go:266",#[⟨3,φ⟩,⟨5,φ⟩],ν⟩:Oper) (λK hK=>?_);go_simp;refine(R1 (ς ⟨b2,off2,ν⟩) k c2 C (C k).s _ ((hCk.later jH).take (by omega)) (by omega)).mono ?_;rintro e w4 ⟨r4,rfl,hr4,hb4⟩;refine hK.out _ _ (AA jH hb4) (λjH=>?_);clear hK K;try simp only [zS]
   refine tk 7 (⟨ς 30,.binOp .geq 3 (δ 29) (.const (ι κ 0)) 3,4,"l5_replay.go:266",#[⟨6,φ⟩],ν⟩:Oper) (λx jS=>by go_simp<;>rfl) jH ?_
   try simp only [zS]
   refine XW (by kernel_rfl) ?_ _;have hb5:=AA (AE wr (γ #[τ (C k).s,ι κ (C k).t] 92)) jH;clear jH;rcases hh:Ah C (C k).s k
   ·
    have hr5:¬(0:Int)<=r4:=by rw [hr4,hh];simp
    go_wp2;go_roundw
    case rel=>exact⟨k+1,by omega,by go_num,λj hj=>by
     by_cases e:j=k
     · rw [e];exact hh
     · exact HNO.out j (by omega),AA hbr hb5⟩
    case measure=>simp [XX];omega
   ·
    have hr5:(0:Int)<=r4:=hr4.2 hh;have HA:Hid (LE T n tb n2 C=(C8 T n,3)):=by show _=_;unfold LE;rw [HT.out,QB hlt hh];rfl
    have s0:=AC q0 hb5;have s1:=AC q2 hb5;obtain⟨y0,-⟩:=AN s0;have hs5:=hb5.size;go_wp2_with (first | (go_at_call 74;refine(CQ a n c T _ (h.later (AA hbw hb5)) (by omega) HF.out).mono ?_;rintro e w2 ⟨a8,c8,rfl,hL8,hb8⟩;have s2:=AC s1 hb8;obtain⟨y2,f2⟩:=AN s2))
    refine XL (AF Tryz.results73 _ _ (w.heap.size+1+1) 45 _ (0,0) _ rfl (CA s2 _) Tryz.underlying45 rfl (by kernel_rfl)) rfl ?_;rw [HA.out];exact BI (AA hbw hb5) hL8 hb8 (by omega) (by omega) 3
  ·
   obtain rfl:k=n2:=by omega
   have HDF:Hid (FE C k=true):=Az (λj hj=>by rw [HNO.out j hj];rfl);by_cases hN:n=100
   ·
    subst hN;have HA:Hid (LE T 100 tb k C=(C8 T 100,6)):=by show _=_;unfold LE;rw [HT.out,HDF.out];rfl
    go_wp2_with (first | (go_at_call 74;refine(CQ a 100 c T _ (h.later hbw) (by omega) HF.out).mono ?_;rintro e w2 ⟨a8,c8,rfl,hL8,hb8⟩;have s2:=AC q2 hb8;obtain⟨y2,f2⟩:=AN s2))
    refine XL (AF Tryz.results73 _ _ (w.heap.size+1+1) 45 _ (0,0) _ rfl (CA s2 _) Tryz.underlying45 rfl (by kernel_rfl)) rfl ?_;rw [HA.out];exact BI hbw hL8 hb8 (by omega) (by omega) 6
   ·
    have nN:((n:Int) == 100)=false:=by simp;omega
    have HA:Hid (LE T n tb k C=(D8 T ⟨tb,k,C,0,λ_=>0,λ_ _=>d0⟩ n,0)):=by show _=_;unfold LE;rw [HT.out,HDF.out,if_neg (by simp),if_neg (by simp),if_neg hN]
    clear hN;have HSM:Hid (Sm3 ⟨tb,k,C,0,λ_=>0,λ_ _=>d0⟩):=⟨htb,⟨h2m,λj hj=>by obtain⟨_,_,_,_,_,hz⟩:=hC j hj;exact hz⟩,⟨by show (0:Nat)<=_;omega,λj hj=>absurd hj (Xj j)⟩⟩;go_wp2_with (first | (go_at_call 132;refine(EZ a n c T tb k C 0 (λ_=>0) (λ_ _=>d0) (ς ⟨b2,off2,ν⟩) c2 ν 0 _ rfl _ (h.later hbw) (hC.later hbw) (λj hj=>absurd hj (Xj j)) HSM.out hn HF.out ⟨h20,λj hj=>absurd hj (Xj j)⟩).mono ?_;rintro e w2 ⟨a8,c8,rfl,hL8,hb8⟩;have s2:=AC q2 hb8;obtain⟨y2,f2⟩:=AN s2))
    refine XL (AF Tryz.results73 _ _ (w.heap.size+1+1) 45 _ (0,0) _ rfl (CA s2 _) Tryz.underlying45 rfl (by kernel_rfl)) rfl ?_;rw [HA.out];exact Cm hbw hL8 hb8 (by omega) (by omega) 0
