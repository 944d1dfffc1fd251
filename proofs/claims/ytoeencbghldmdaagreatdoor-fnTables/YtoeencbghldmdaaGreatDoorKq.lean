import Derived.Test.YtoeencbghldmdaaGreatDoorTf
import Derived.Test.YtoeencbghldmdaaGreatDoorKp
import Derived.OpenShut
import Derived.ShutString
import Derived.ChangeMaps5
import Derived.Carry
import Derived.Deep.Slices
open Bool renaming and_eq_true → VO
open Go renaming Calls → VK, Value → VN, World → ο
open Go.Ending renaming returned → ρ
open Go.IntKind renaming i64 → κ
open Go.Obj renaming cells → γ
open Go.Proofs.Tryz renaming prog → μ
open Go.RowKit renaming Below → υ
open Go.RowKit.Below renaming refl → VT
open Go.Value renaming bool → β, int → ι, pointer → ψ, slice → σ
open Nat renaming not_lt_zero → Vc, zero_le → VS
open Option renaming none → ν, some → ς
open Option.some renaming inj → VF
namespace Go.Proofs.YtoeencbghldmdaaGreatDoor
open Go.ChangeShapes Go.WideShapes Go.ChangeAt Go.RowKit Go.Deep
set_option maxRecDepth 100000
set_option maxHeartbeats 4000000
theorem Rq:Tryz.prog.cellsOf 5=1:=by kernel_rfl
theorem AaB{a:Addr}{w:ο}{v:VN}(h:w.cell? (a.add 0)=ς v):a.spot=ν:=by simpa [Addr.add] using World.cell?_spot h
theorem Ky{H:Type}{enc:TypeId×VN->H}{w:ο}{fuel:Nat}{v:VN}{x:DataW H×List MemPlace}
 (h:DataW.trod enc μ w 0 (λ_=>true) true fuel 22 [v]=ς x):∃ a n c,v=.slice a n c/\n<=9223372036854775807/\GG w a n:=by
 rcases _root_.Go.ChangeShapes.open_ints Tryz.underlying22 Tryz.underlying5 Rq h with ⟨hcs,hx⟩ | ⟨a',len,cap,zs,hcs,_,hl,hm,hz,hx,hcell,hwf⟩
 ·
  simp at hcs
  subst hcs;exact⟨_,_,_,rfl,VS _,λj hj=>absurd hj (Vc _)⟩
 ·
  simp at hcs
  subst hcs;simp only [if_true] at hz
  unfold maxLen at hm;refine⟨_,_,_,rfl,by omega,λj hj=>?_⟩;have hc:=hcell j (by omega);have hsp:=AaB (hcell 0 (by omega));have hw:=hwf (zs.getD j 0) (by
   have hjl:j<zs.length:=by omega
   have e:zs.getD j 0=zs[j]:=by simp [List.getD,hjl]
   rw [e];exact List.getElem_mem _)
  obtain⟨b,off,spot⟩:=a';obtain rfl:spot=ν:=hsp;refine⟨b,off,zs.getD j 0,rfl,?_,?_⟩
  ·
   have e:(⟨b,off,ν⟩:Addr).add j=⟨b,off+j,ν⟩:=by unfold Addr.add;split <;> simp_all
   rw [←e];exact hc
  · have m0:IntKind.u8.min=0:=rfl;have m1:IntKind.u8.max=255:=rfl;have hw2:(decide (IntKind.u8.min<=zs.getD j 0) && decide (zs.getD j 0<=IntKind.u8.max))=true:=hw;rw [VO,decide_eq_true_eq,decide_eq_true_eq,m0,m1] at hw2;exact hw2
theorem Me{H:Type}{enc:TypeId×VN->H}{w:ο}{r:Reach}{b0:Nat}{v:VN}{d:DataW H}{ps:List MemPlace}(hval:Value.okWide μ w r b0 22 v)
 (h:DataW.Trod enc μ w 0 (λ_=>true) true 22 v d ps):∃ a n c,v=.slice a n c/\n<=9223372036854775807/\GG w a n:=by
 obtain⟨a,n,c,rfl⟩:=okWide_slice Tryz.underlying22 hval;obtain⟨fuel,hf⟩:=h;exact Ky hf
theorem Pg(ca:Option Addr)(cn cc:Nat)(w:ο)(hcn:¬cn<=1048576):VK μ 3 #[σ ca cn cc] w λe w'=>e=ρ (β true)/\υ w.heap.size w w':=by
 have hcz:(cn:Int) > 1048576:=by omega
 go_enter Tryz.func3,Tryz.ntmps3
 go_wp2;go_ret
 exact⟨rfl,VT _ _⟩
theorem RT(ca:Option Addr)(cn cc:Nat)(w:ο)(h:GG w ca cn)(hSp:SpT w):VK μ 3 #[σ ca cn cc] w λe w'=>e=ρ (β true)/\υ w.heap.size w w':=by
 by_cases hcn:cn<=1048576
 · exact Ua ca cn cc w h hcn hSp
 · exact Pg ca cn cc w hcn
theorem Hk(H:Type)(enc:TypeId×VN->H)(W:ο)(base:Nat)(args:Array VN)(ds gs:List (DataW H))(before:List MemPlace)
 (hval:∀ (j:Nat) t v,Tryz.f3.params[j]?=ς t->args[j]?=ς v->Value.okWide μ W .any base t v)
 (hW:DataW.Whole enc μ Tryz.f3.params.toList Rows.fnTablesSpec.vars false W args.toList ds gs before) (hL:laidMetH μ Rows.fnTablesRow.laid W) :
 VK μ 3 args W λe W'=>∃ v,e=.returned v/\Rows.fnTablesSpec.post enc μ Tryz.f3 false true false false W args v W':=by
 have hW':=hW;obtain⟨p,q,hA0,hV,rfl,hfz,hnd⟩:=hW;have hA:DataW.TrodAll enc μ W 0 (λ_=>true) true Tryz.f3.params.toList args.toList ds p:=hA0;rw [Tryz.params3] at hA hval;obtain⟨v0,vs0,d0,ds0,p0,q0,hargs,rfl,rfl,h0,r0⟩:=trodAll_cons hA;obtain⟨rfl,rfl,rfl⟩:=trodAll_nil r0;obtain rfl:args=#[v0]:=by cases args;simp_all
 obtain⟨rfl,rfl⟩:=trodVars_none hV;have h0k:=h0;obtain⟨a,n,c,rfl,hn,hC⟩:=Me (hval 0 22 v0 rfl rfl) h0;clear hA0;simp only [List.append_nil] at hW'
 have hlt0:∀ x∈p0,x.block<W.heap.size:=λx hx=>by simpa using hW'.lt x hx
 refine(RT a n c W hC (Qm hL)).mono λe W' ⟨he,bel⟩=>?_;subst he;exact⟨_,rfl,_,_,_,[],_,[],hW',trodAll_mk1 (shut_bool Tryz.underlying4 _),(trodAll_cons_mk (Below.trod G8 (by kernel_rfl) (of_decide_eq_true (by kernel_rfl)) h0k bel hlt0) trodAll_mk0),bel.trodVars G8 (by kernel_rfl) hV,bel.frame _,λh=>by cases h⟩
theorem G9(os:Os):laidMet μ Rows.fnTablesRow.laid (({ (World.holding μ os ⟨#[γ (Lib.whiteT.map λ(z:Nat)=>ι .u16 (z:Int)).toArray 221,γ #[σ (ς ⟨(World.settled μ os).heap.size,0,ν⟩) 7 7,σ ν 0 0,ι κ 2] 218],#[],[]⟩) with heap:=((World.holding μ os ⟨#[γ (Lib.whiteT.map λ(z:Nat)=>ι .u16 (z:Int)).toArray 221,γ #[σ (ς ⟨(World.settled μ os).heap.size,0,ν⟩) 7 7,σ ν 0 0,ι κ 2] 218],#[],[]⟩).heap.modify 0 λ_=>γ (Lib.asciiSpaceTab.map λz=>ι .u8 z).toArray 162 (0,0)).modify 1 λ_=>γ #[ψ (ς ⟨(World.settled μ os).heap.size+1,0,ν⟩)] 197 (0,0) }:ο).forCall (λ_ _=>0) ⟨#[],#[σ ν 0 0],[]⟩).memory:=
 laidMet_of_run3 10 (by kernel_rfl) (by kernel_rfl) (by kernel_rfl)
theorem Hx(os:Os){H:Type}(enc:TypeId×VN->H):(OpenSpec.ofChange Rows.fnTablesSpec).preRow enc μ Tryz.f3 Rows.fnTablesRow.domain false Rows.fnTablesRow.laid (({ (World.holding μ os ⟨#[.cells (Lib.whiteT.map λ(z:Nat)=>ι .u16 (z:Int)).toArray 221,.cells #[.slice (ς ⟨(World.settled μ os).heap.size,0,ν⟩) 7 7,.slice ν 0 0,.int .i64 2] 218],#[],[]⟩) with heap:=((World.holding μ os ⟨#[.cells (Lib.whiteT.map λ(z:Nat)=>ι .u16 (z:Int)).toArray 221,.cells #[.slice (ς ⟨(World.settled μ os).heap.size,0,ν⟩) 7 7,.slice ν 0 0,.int .i64 2] 218],#[],[]⟩).heap.modify 0 λ_=>.cells (Lib.asciiSpaceTab.map λz=>ι .u8 z).toArray 162 (0,0)).modify 1 λ_=>.cells #[.pointer (ς ⟨(World.settled μ os).heap.size+1,0,ν⟩)] 197 (0,0) }:ο).forCall (λ_ _=>0) ⟨#[],#[.slice ν 0 0],[]⟩).memory #[.slice ν 0 0]:=by
 have hw:(DataW.whole enc μ (({ (World.holding μ os ⟨#[.cells (Lib.whiteT.map λ(z:Nat)=>ι .u16 (z:Int)).toArray 221,.cells #[.slice (ς ⟨(World.settled μ os).heap.size,0,ν⟩) 7 7,.slice ν 0 0,.int .i64 2] 218],#[],[]⟩) with heap:=((World.holding μ os ⟨#[.cells (Lib.whiteT.map λ(z:Nat)=>ι .u16 (z:Int)).toArray 221,.cells #[.slice (ς ⟨(World.settled μ os).heap.size,0,ν⟩) 7 7,.slice ν 0 0,.int .i64 2] 218],#[],[]⟩).heap.modify 0 λ_=>.cells (Lib.asciiSpaceTab.map λz=>ι .u8 z).toArray 162 (0,0)).modify 1 λ_=>.cells #[.pointer (ς ⟨(World.settled μ os).heap.size+1,0,ν⟩)] 197 (0,0) }:ο).forCall (λ_ _=>0) ⟨#[],#[.slice ν 0 0],[]⟩).memory Tryz.f3.params.toList Rows.fnTablesSpec.vars false #[.slice ν 0 0].toList 8).map (λx=>(x.1,x.2.1))=ς ([.nil],[]):=by kernel_rfl
 obtain⟨⟨x1,x2,x3⟩,hx,hx1⟩:=Option.map_eq_some_iff.1 hw;simp only [Prod.mk.injEq] at hx1
 obtain⟨rfl,rfl⟩:=hx1;exact OpenSpec.preRow_of_cond 8 hx (by kernel_rfl) (λk hk=>by cases hk) (by kernel_rfl) (G9 os)
theorem I7(os:Os)(started:os.Started)(H:Type)(enc:TypeId×VN->H)(F:Stop.Interp) :
 ReturnsInHanded {} Tryz.checked os 3 .any ((OpenSpec.ofChange Rows.fnTablesSpec).preRow enc μ Tryz.f3 Rows.fnTablesRow.domain false Rows.fnTablesRow.laid) (((OpenSpec.ofChange Rows.fnTablesSpec).at F).post enc μ Tryz.f3 false true false false):=by
 refine returnsInHanded_of_row (C:=Tryz.checked) (s:=OpenSpec.ofChange Rows.fnTablesSpec) RR started (by kernel_rfl) Tryz.func3
  (witness_row_atRef (enc:=enc) (C:=Tryz.checked) false ({ (World.holding μ os ⟨#[γ (Lib.whiteT.map λ(z:Nat)=>ι .u16 (z:Int)).toArray 221,γ #[σ (ς ⟨(World.settled μ os).heap.size,0,ν⟩) 7 7,σ ν 0 0,ι κ 2] 218],#[],[]⟩) with heap:=((World.holding μ os ⟨#[γ (Lib.whiteT.map λ(z:Nat)=>ι .u16 (z:Int)).toArray 221,γ #[σ (ς ⟨(World.settled μ os).heap.size,0,ν⟩) 7 7,σ ν 0 0,ι κ 2] 218],#[],[]⟩).heap.modify 0 λ_=>γ (Lib.asciiSpaceTab.map λz=>ι .u8 z).toArray 162 (0,0)).modify 1 λ_=>γ #[ψ (ς ⟨(World.settled μ os).heap.size+1,0,ν⟩)] 197 (0,0) }:ο) #[σ ν 0 0] rfl (by kernel_rfl) (by kernel_rfl) (by kernel_rfl) (Hx os enc)) ?_
 intro W base args ds gs before hval hW _ _ _ hL _ _;exact Hk H enc W base args ds gs before hval hW hL
theorem Kq:Rows.FnTablesSaid:=
 OpenClaim.holds_of_cond 3 Tryz.f3 rfl rfl rfl rfl rfl rfl rfl ⟨rfl,rfl,rfl,rfl,rfl⟩ rfl rfl rfl rfl rfl (by kernel_rfl) Tryz.func3 (by kernel_rfl)
  (of_decide_eq_true (by kernel_rfl)) (by unfold Func.isWrapper;first | (rw [if_pos (by decide +kernel)];kernel_rfl) | (rw [if_neg (by decide +kernel)];exact⟨rfl,rfl⟩))
  (λos started H enc _ F=>by rw [OpenClaim.pre_eq_preRow];exact I7 os started H enc F)
theorem Jm(f:FuncId)(fn:Func)(hf:Tryz.pinned.checked.prog.funcNamed "loop.example/s02884/laws.FnTables"=ς f)(hfn:Tryz.pinned.checked.prog.funcs[f]?=ς fn) :
 false=Tryz.pinned.checked.prog.looks []/\∀ (j:Nat) t,fn.params[j]?=ς t->Tryz.pinned.checked.prog.wantsStandIn t=false:=by
 obtain rfl:f=3:=VF ((show Tryz.prog.funcNamed "loop.example/s02884/laws.FnTables"=ς 3 by kernel_rfl).symm.trans hf) |>.symm;obtain rfl:fn=Tryz.f3:=(VF (Tryz.func3.symm.trans hfn)).symm;refine⟨by kernel_rfl,λj t ht=>?_⟩;rw [Tryz.params3] at ht;obtain rfl:t=22:=by simpa using Array.mem_of_getElem? ht
 exact(show Tryz.prog.wantsStandIn 22=false by kernel_rfl)
theorem tables_card:Rows.FnTablesCardSaid:=
 Claim7.holds_tied_plain_at .later [] _ _ _ _ Kq (λ_ h=>by cases h) (by kernel_rfl) (λ_ h=>by cases h) fnTables_row_tie rfl ⟨rfl,rfl⟩ (by kernel_rfl) rfl Jm (by kernel_rfl)
#print axioms tables_card
