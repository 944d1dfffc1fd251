import Derived.Test.YtoeencbghldmdaaGreatDoorProg
import Derived.Deep.RegionHeld3
import Derived.WalkKit
import Derived.ProofKit
import Derived.Laws.CopyOwn
import Derived.Deep.QuietTactic
import Derived.BigQuiet
import Derived.Maps.OwnSet
import Derived.Lib.Fields
import Derived.Test.YtoeencbghldmdaaGreatDoorShelf
import Derived.Test.YtoeencbghldmdaaGreatDoorCards
import Derived.Test.YtoeencbghldmdaaGreatDoorTie
import Derived.OpenShut
import Derived.ShutString
import Derived.Deep.DeepHandedRow
import Derived.Deep.DeepWitnessRowRef
import Derived.Deep.DeepLaidRun
import Derived.Lib.LaidTab
import Derived.Lib.SpaceR
import Derived.Stop.LaidErr
import Derived.OpenVars
import Derived.Deep.AppendLies
import Derived.Deep.DeepCutAuto
import Derived.Deep.OwnRows
import Derived.Deep.RegionWith
open Array renaming getElem?_eq_some_iff → VL
open ByteArray renaming empty → VG
open Go renaming Calls → VK, Value → VN, World → ο, cell_of_row → ε, heap_alloc_new → η, bodyPost_ret → VE, wpAnyH_done → VP, wp_region_held_drew → VH
open Go.Ending renaming returned → ρ
open Go.IntKind renaming i64 → κ
open Go.Obj renaming cells → γ
open Go.Operand renaming tmp → δ
open Go.Proofs.Tryz renaming prog → μ
open Go.RowKit renaming intOf → VQ, Below → υ
open Go.RowKit.Below renaming refl → VT
open Go.Value renaming bool → β, int → ι, string → τ, slice → σ, agg → χ, tuple → θ
open Go.World renaming news_of_block → VI, ownsRow_made → VU
open Nat renaming le_refl → VD, zero_add → VM, add_zero → Vf
open Option renaming none → ν, some → ς
open Option.some renaming inj → VF
open Or renaming inl → VV, inr → Vb
namespace Go.Proofs.YtoeencbghldmdaaGreatDoor
open Go.RowKit
set_option maxRecDepth 20000
set_option maxHeartbeats 2000000
theorem zS:(∀ (a:Act) (t:Tmp) (v:VN),a.put (ς t) v={ a with tmps:=a.tmps.setIfInBounds t v })/\(∀ (a:Act) (v:VN),a.put ν v=a)/\(∀ (α:Type) (l:List α) (i:Nat) (x:α),l.toArray.setIfInBounds i x=(l.set i x).toArray)/\(∀ (α:Type) (y x:α) (l:List α),(y :: l).set 0 x=x :: l)/\∀ (α:Type) (y x:α) (l:List α) (n:Nat),(y :: l).set (n+1) x=y :: l.set n x:=
 ⟨λ_ _ _=>rfl,λ_ _=>rfl,λ_ _ _ _=>List.setIfInBounds_toArray ..,λ_ _ _ _=>rfl,λ_ _ _ _ _=>rfl⟩
theorem Uk{ops:Array Oper}{i:Nat}{o:Oper}(h:(ops.toList.drop i).head?=ς o):ops[i]?=ς o:=by
 rw [List.head?_drop,Array.getElem?_toList] at h
 exact h
theorem tk{P:Program}{ops:Array Oper}{Q:Exit->Act->ο->Prop}{md:Region.Mode}{S:ο->Prop}(i:Nat){oi:Oper}{v:VN}{fuel:Nat}{listed:Array Bool}{a:Act}{w:ο}
 (hS:S w) (h:wpAnyH P md ops Q S fuel (listed.setIfInBounds i true) (a.put oi.dst v) w)
 (hi:(ops.toList.drop i).head?=ς oi:=by rfl) (hy:∀ w,S w->(execOp a.eval oi).run P w=.ok (.value v) w:=by intro _ _;go_simp<;>rfl) (hw:Region.wanted oi (yielded ops a.tmps)=true:=by rfl)
 (hs:Region.noSelect ops=true:=by kernel_rfl) (hf:Region.free md ops listed i=true:=by kernel_rfl) (hr:(Region.ready md ops listed).contains i=true:=by kernel_rfl)
 (hQ:∀ c a w,Q (.panic c) (a.put oi.dst v) w->Q (.panic c) a w:=by exact λ_ _ _ h=>h):wpAnyH P md ops Q S (fuel+1) listed a w:=
 wpAnyH_take (Uk hi) hs hf hr hQ (VV ⟨hw,hy⟩) hS h
theorem A7{P:Program}{ops:Array Oper}{Q:Exit->Act->ο->Prop}{md:Region.Mode}{S:ο->Prop}(i:Nat){oi:Oper}{fuel:Nat}{listed:Array Bool}{a:Act}{w:ο}
 (hS:S w) (h:wpAnyH P md ops Q S fuel (listed.setIfInBounds i true) (a.put oi.dst undef) w)
 (hi:(ops.toList.drop i).head?=ς oi:=by rfl) (hw:Region.wanted oi (yielded ops a.tmps)=false:=by rfl)
 (hs:Region.noSelect ops=true:=by kernel_rfl) (hf:Region.free md ops listed i=true:=by kernel_rfl) (hr:(Region.ready md ops listed).contains i=true:=by kernel_rfl)
 (hQ:∀ c a w,Q (.panic c) (a.put oi.dst undef) w->Q (.panic c) a w:=by exact λ_ _ _ h=>h):wpAnyH P md ops Q S (fuel+1) listed a w:=
 wpAnyH_take (Uk hi) hs hf hr hQ (Vb ⟨hw,rfl⟩) hS h
theorem rd{P:Program}{ops:Array Oper}{Q:Exit->Act->ο->Prop}{md:Region.Mode}{S:ο->Prop}(i:Nat){o:Oper}{fuel:Nat}{listed:Array Bool}{a:Act}{w:ο}
 (h:∀ K':Act->ο->Prop,Shut (∀ a w,S w->(S w->wpAnyH P md ops Q S fuel (listed.setIfInBounds i true) a w)->K' a w)->if Region.wanted o (yielded ops a.tmps)=true then Oper.wp P o a w K' Q else K' (a.put o.dst undef) w)
 (ho:(ops.toList.drop i).head?=ς o:=by rfl) (hr:Region.ready md ops listed=[i]:=by kernel_rfl):wpAnyH P md ops Q S (fuel+1) listed a w:=wpAnyH_ready hr (by simp) (AllReadyH.cons (Uk ho) h AllReadyH.nil)
theorem Up{P:Program}{ops:Array Oper}{Q:Exit->Act->ο->Prop}{md:Region.Mode}{S:ο->Prop}{i:Nat}{oi:Oper}{v:VN}{fuel:Nat}{listed:Array Bool}{a:Act}{w:ο}(hi:ops[i]?=ς oi)
 (hy:Region.wanted oi (yielded ops a.tmps)=true/\∀ w,S w->(execOp a.eval oi).run P w=.ok (.value v) w) (hS:S w)
 (h:wpAnyH P md ops Q S fuel (listed.setIfInBounds i true) (a.put oi.dst v) w)
 (hs:Region.noSelect ops=true:=by kernel_rfl) (hf:Region.free md ops listed i=true:=by kernel_rfl) (hr:(Region.ready md ops listed).contains i=true:=by kernel_rfl)
 (hQ:∀ c a w,Q (.panic c) (a.put oi.dst v) w->Q (.panic c) a w:=by exact λ_ _ _ h=>h):wpAnyH P md ops Q S (fuel+1) listed a w:=
 wpAnyH_take hi hs hf hr hQ (VV hy) hS h
theorem AN{b b':Bool}(h:b=b'):ρ (β b)=ρ (β b'):=by rw [h]
def FK(c:Int):Bool:=decide (97<=c) && decide (c<=122)
def Jx(c:Int):Bool:=decide (48<=c) && decide (c<=57)
def DT(c:Int):Bool:=FK c || Jx c || c == 95
def Bn(x lo hi:Int):Bool:=decide (lo<=x) && decide (x<=hi)
def C0(n:Int):Bool:=n != -9223372036854775808
def C9(n:Int):Bool:=n == 1 || n == 2
def AW(n:Int):Int:=if n<=3 then 0 else if n=11∨n=13 then 1 else 2
def Da(p:Int->Bool)(s:ByteArray):Bool:=s.data.toList.all λc=>p c.toNat
theorem E8{p:Int->Bool}{s:ByteArray}(h:∀ j (hj:j<s.size),p s[j].toNat=true):Da p s=true:=by
 unfold Da;rw [List.all_eq_true];intro c hc;obtain⟨j,hj,rfl⟩:=List.getElem_of_mem hc;exact h j (by simpa using hj)
theorem EX{p:Int->Bool}{s:ByteArray}{j:Nat}(hj:j<s.size)(h:p s[j].toNat=false):Da p s=false:=by
 unfold Da;rw [List.all_eq_false];exact⟨s[j],List.getElem_mem (l:=s.data.toList) (n:=j) (by simpa using hj),by simp [h]⟩
def CK(c:Int):Bool:=Bn c 32 126
def A6(s:ByteArray):Bool:=decide ((s.size:Int)<=200) && Da CK s
theorem Le(c:Int)(w:ο):VK μ 89 #[ι .u8 c] w λe w'=>e=ρ (β (FK c))/\w'=w:=by
 go_enter Tryz.func89,Tryz.ntmps89
 go_wp2;all_goals
  go_ret
  exact⟨AN (by simp [FK];omega),rfl⟩
theorem Lx(c:Int)(w:ο):VK μ 129 #[ι .u8 c] w λe w'=>e=ρ (β (FK c))/\w'=w:=by
 go_enter Tryz.func129,Tryz.ntmps129
 go_wp2;all_goals
  go_ret
  exact⟨AN (by simp [FK];omega),rfl⟩
theorem Ri(c:Int)(w:ο):VK μ 158 #[ι .u8 c] w λe w'=>e=ρ (β (Jx c))/\w'=w:=by
 go_enter Tryz.func158,Tryz.ntmps158
 go_wp2;all_goals
  go_ret
  exact⟨AN (by simp [Jx];omega),rfl⟩
theorem Mm(c:Int)(w:ο):VK μ 132 #[ι .u8 c] w λe w'=>e=ρ (β (CK c))/\w'=w:=by
 go_enter Tryz.func132,Tryz.ntmps132
 go_wp2;all_goals
  go_ret
  exact⟨AN (by simp [CK,Bn];omega),rfl⟩
theorem Cz(x lo hi:Int)(w:ο):VK μ 76 #[ι κ x,ι κ lo,ι κ hi] w λe w'=>e=ρ (β (Bn x lo hi))/\w'=w:=by
 go_enter Tryz.func76,Tryz.ntmps76
 go_wp2;all_goals
  go_ret
  exact⟨AN (by simp [Bn];omega),rfl⟩
theorem Qy(c:Int)(w:ο):VK μ 92 #[ι .u8 c] w λe w'=>e=ρ (β (DT c))/\w'=w:=by
 go_enter Tryz.func92,Tryz.ntmps92
 go_wp2_with (go_at_call 89;refine(Le c _).mono ?_;rintro e w1 ⟨rfl,rfl⟩;rcases hb:FK c)
 all_goals
  go_ret
  exact⟨AN (Bool.eq_iff_iff.2 (by simp [DT,Jx,hb] <;> omega)),rfl⟩
theorem Ml(c:Int)(w:ο):VK μ 131 #[ι .u8 c] w λe w'=>e=ρ (β (DT c))/\w'=w:=by
 go_enter Tryz.func131,Tryz.ntmps131
 go_wp2_with (first | (go_at_call 129;refine(Lx c _).mono ?_;rintro e w1 ⟨rfl,rfl⟩;rcases hb:FK c) | (go_at_call 158;refine(Ri c _).mono ?_;rintro e w1 ⟨rfl,rfl⟩;rcases hd:Jx c))
 all_goals
  go_ret
  exact⟨AN (by simp [DT, *]),rfl⟩
theorem In(n:Int)(w:ο):VK μ 93 #[ι κ n] w λe w'=>e=ρ (β (C0 n))/\w'=w:=by
 go_enter Tryz.func93,Tryz.ntmps93
 go_wp2;go_ret
 exact⟨AN (by simp [C0]),rfl⟩
theorem JG(n:Int)(w:ο):VK μ 105 #[ι κ n] w λe w'=>e=ρ (β (C0 n))/\w'=w:=by
 go_enter Tryz.func105,Tryz.ntmps105
 go_wp2;go_ret
 exact⟨AN (by simp [C0]),rfl⟩
theorem Lb(n:Int)(w:ο):VK μ 47 #[ι κ n] w λe w'=>e=ρ (β (C9 n))/\w'=w:=by
 go_enter Tryz.func47,Tryz.ntmps47
 go_wp2;all_goals
  go_ret
  exact⟨AN (by simp [C9, *]),rfl⟩
theorem Ba(n:Int)(w:ο):VK μ 56 #[ι κ n] w λe w'=>e=ρ (ι κ (AW n))/\w'=w:=by
 go_enter Tryz.func56,Tryz.ntmps56
 go_wp2;all_goals
  go_ret
  exact⟨by
   show ρ (ι κ _)=_
   unfold AW;try simp only [beq_iff_eq,beq_eq_false_iff_ne,ne_eq] at *
   congr 2
   (repeat' split) <;> omega,rfl⟩
theorem Uo(c:UInt8):wrap64 (c.toNat:Int)=c.toNat:=by
 have:=c.toNat_lt;unfold wrap64;omega
theorem Lc(s:ByteArray)(w:ο)(hs:s.size<=1048576):VK μ 94 #[τ s] w λe w'=>e=ρ (β (A6 s))/\w'=w:=by
 go_enter Tryz.func94,Tryz.ntmps94
 go_wp2
 ·
  go_ret
  exact⟨AN (by simp [A6];omega),rfl⟩
 ·
  go_loop [3] (λi=>∃ k:Nat,k<=s.size/\i=ι κ k/\∀ j (h:j<s.size),j<k->Bn s[j].toNat 32 126=true) (λi=>s.size - (VQ i).toNat)
  case atStart=>exact⟨0,by omega,rfl,λj _ h=>by omega⟩
  case round=>
   obtain⟨k,hk,rfl,hall⟩:=hrel;by_cases hlt:k<s.size
   ·
    go_wp2_with (go_at_call 76;refine(Cz _ 32 126 _).mono ?_;rw [Uo];rintro e w1 ⟨rfl,rfl⟩;rcases hb:Bn s[k].toNat 32 126)
    ·
     go_ret
     exact⟨AN (by simp [A6,EX (p:=CK) hlt hb]),rfl⟩
    ·
     go_round
     case rel=>exact⟨k+1,by omega,by go_num,λj h hj=>by
      by_cases e:j=k
      · subst e;exact hb
      · exact hall j h (by omega)⟩
     case measure=>simp [VQ];omega
   ·
    go_wp2;go_ret
    exact⟨AN (by simp [A6,E8 (p:=CK) (λj h=>hall j h (by omega))] <;> omega),rfl⟩
theorem QD(s:ByteArray)(w:ο)(hs:s.size<=1048576):VK μ 130 #[τ s,.func (.func 132) #[] #[]] w λe w'=>∃ n:Nat,e=ρ (ι κ n)/\w'=w/\(n=s.size↔Da CK s=true):=by
 go_enter Tryz.func130,Tryz.ntmps130
 go_wp2;go_loop [5] (λi=>∃ k:Nat,k<=s.size/\i=ι κ k/\∀ j (h:j<s.size),j<k->CK s[j].toNat=true) (λi=>s.size - (VQ i).toNat)
 case atStart=>exact⟨0,by omega,rfl,λj _ h=>by omega⟩
 case round=>
  obtain⟨k,hk,rfl,hall⟩:=hrel;by_cases hlt:k<s.size
  ·
   go_wp2_with (go_at_call 132;refine(Mm _ _).mono ?_;rintro e w1 ⟨rfl,rfl⟩;rcases hb:CK s[k].toNat)
   ·
    go_ret
    exact⟨k,rfl,rfl,by rw [EX (p:=CK) hlt hb];simp;omega⟩
   ·
    go_round
    case rel=>exact⟨k+1,by omega,by go_num,λj h hj=>by
     by_cases e:j=k
     · subst e;exact hb
     · exact hall j h (by omega)⟩
    case measure=>simp [VQ];omega
  ·
   go_wp2;go_ret
   exact⟨k,rfl,rfl,by rw [E8 (p:=CK) (λj h=>hall j h (by omega))];simp;omega⟩
theorem QC(s:ByteArray)(w:ο)(hs:s.size<=1048576):VK μ 130 #[τ s,.func (.func 131) #[] #[]] w λe w'=>∃ n:Nat,e=ρ (ι κ n)/\w'=w/\(n=s.size↔Da DT s=true):=by
 go_enter Tryz.func130,Tryz.ntmps130
 go_wp2;go_loop [5] (λi=>∃ k:Nat,k<=s.size/\i=ι κ k/\∀ j (h:j<s.size),j<k->DT s[j].toNat=true) (λi=>s.size - (VQ i).toNat)
 case atStart=>exact⟨0,by omega,rfl,λj _ h=>by omega⟩
 case round=>
  obtain⟨k,hk,rfl,hall⟩:=hrel;by_cases hlt:k<s.size
  ·
   go_wp2_with (go_at_call 131;refine(Ml _ _).mono ?_;rintro e w1 ⟨rfl,rfl⟩;rcases hb:DT s[k].toNat)
   ·
    go_ret
    exact⟨k,rfl,rfl,by rw [EX (p:=DT) hlt hb];simp;omega⟩
   ·
    go_round
    case rel=>exact⟨k+1,by omega,by go_num,λj h hj=>by
     by_cases e:j=k
     · subst e;exact hb
     · exact hall j h (by omega)⟩
    case measure=>simp [VQ];omega
  ·
   go_wp2;go_ret
   exact⟨k,rfl,rfl,by rw [E8 (p:=DT) (λj h=>hall j h (by omega))];simp;omega⟩
theorem BD{a b:ByteArray}(h:a.toList=b.toList):a=b:=by
 rw [ByteArray.toList_eq,ByteArray.toList_eq] at h;obtain⟨⟨a⟩⟩:=a;obtain⟨⟨b⟩⟩:=b;simp at h
 rw [h]
theorem Rm(a b:ByteArray):(a.toList == b.toList)=decide (a=b):=by
 by_cases h:a=b
 · subst h;simp
 ·
  simp [h]
  exact λe=>h (BD e)
theorem BY(s:ByteArray):s.toList=[]↔s.size=0:=by
 rw [ByteArray.toList_eq];constructor
 · intro h;have:=congrArg List.length h;simpa using this
 · intro h;exact List.length_eq_zero_iff.1 (by simpa using h)
theorem OE(s:ByteArray)(w:ο)(hs:s.size<=1048576):VK μ 106 #[τ s] w λe w'=>e=ρ (β (A6 s))/\w'=w:=by
 go_enter Tryz.func106,Tryz.ntmps106
 go_wp2_with (go_at_call 130;refine(QD s _ hs).mono ?_;rintro e w1 ⟨n,rfl,rfl,hn⟩)
 all_goals
  go_ret
  refine⟨AN (Bool.eq_iff_iff.2 ?_),rfl⟩;first
   | (simp [A6,←hn] <;> omega)
   | (simp [A6] <;> omega)
def OS(s:ByteArray):Int:=if h:0<s.size then s[0].toNat else 0
theorem Eu{s:ByteArray}(h:0<s.size):OS s=s[0].toNat:=by simp [OS,h]
def Cl(s:ByteArray):Bool:=decide (0<s.size) && decide ((s.size:Int)<=30) && FK (OS s) && Da DT s
theorem TA(s:ByteArray)(w:ο)(hs:s.size<=1048576):VK μ 104 #[τ s] w λe w'=>e=ρ (β (Cl s))/\w'=w:=by
 go_enter Tryz.func104,Tryz.ntmps104
 by_cases h0:0<s.size
 ·
  have h0':¬s.toList=[]:=λh=>by have:=(BY s).1 h;omega
  go_wp2_with (first | (go_at_call 129;refine(Lx _ _).mono ?_;rintro e w1 ⟨rfl,rfl⟩;rcases hb:FK s[0].toNat) | (go_at_call 130;refine(QC s _ hs).mono ?_;rintro e w1 ⟨n,rfl,rfl,hn⟩))
  all_goals
   go_ret
   refine⟨AN (Bool.eq_iff_iff.2 ?_),rfl⟩;first
    | (rcases ha:Da DT s <;> simp [ha] at hn <;> simp [Cl,Eu h0,hb,ha,h0'] <;> omega)
    | (simp [Cl,Eu h0,hb] <;> omega)
    | (simp [Cl] <;> omega)
 ·
  have h0':s.toList=[]:=(BY s).2 (by omega);go_wp2;go_ret
  exact⟨AN (by simp [Cl,h0]),rfl⟩
end Go.Proofs.YtoeencbghldmdaaGreatDoor
namespace Go.Proofs.YtoeencbghldmdaaGreatDoor
open Go.RowKit Go.Maps
set_option maxRecDepth 20000
set_option maxHeartbeats 4000000
def I8:List ByteArray:=[⟨#[99,114,101,97,116,101]⟩,⟨#[116,97,98,108,101]⟩,⟨#[105,110,115,101,114,116]⟩,⟨#[105,110,116,111]⟩,⟨#[118,97,108,117,101,115]⟩,⟨#[117,112,100,97,116,101]⟩,⟨#[115,101,116]⟩,⟨#[100,101,108,101,116,101]⟩,⟨#[102,114,111,109]⟩,⟨#[119,104,101,114,101]⟩,⟨#[115,101,108,101,99,116]⟩,⟨#[97,110,100]⟩,⟨#[111,114]⟩,⟨#[110,111,116]⟩,⟨#[108,101,110]⟩,⟨#[105,110,116]⟩,⟨#[116,101,120,116]⟩]
def JB(s:ByteArray)(L:List ByteArray):Bool:=L.any λx=>decide (x=s)
theorem Mk{s:ByteArray}{L:List ByteArray}{k:Nat}(hk:k<L.length)(h:L[k]=s):JB s L=true:=by
 unfold JB;rw [List.any_eq_true];exact⟨L[k],List.getElem_mem _,by simp [h]⟩
theorem K8{s:ByteArray}{L:List ByteArray}(h:∀ k (hk:k<L.length),¬L[k]=s):JB s L=false:=by
 unfold JB;rw [List.any_eq_false];intro x hx;obtain⟨j,hj,rfl⟩:=List.getElem_of_mem hx;simp [h j hj]
def AM(s:ByteArray):Bool:=Cl s && !JB s I8
theorem AD(w:ο)(o:Obj):υ w.heap.size w (w.alloc o):=(VT _ _).alloc (VD _) _
theorem C1{w w1:ο}{o:Obj}(h:υ (w.alloc o).heap.size (w.alloc o) w1):υ w.heap.size w w1:=(AD w o).trans (h.mono (AD w o).size)
theorem AA{a b c:ο}(h:υ a.heap.size a b)(k:υ b.heap.size b c):υ a.heap.size a c:=h.trans (k.mono h.size)
theorem AB{w w':ο}{p:Addr}{v:VN}(hb:υ w.heap.size w w')(hc:w.cell? p=ς v):w'.cell? p=ς v:=(hb.cell (World.block_lt_of_cell? w _ hc)).trans hc
def SL(w:ο)(a:Option Addr)(L:List ByteArray):Prop:=∀ k (h:k<L.length),∃ b off,a=ς ⟨b,off,ν⟩/\w.cell? ⟨b,off+k,ν⟩=ς (τ L[k])
theorem NQ(w:ο)(L:List ByteArray)(t:TypeId):SL (w.alloc (γ (L.map τ).toArray t)) (ς ⟨w.heap.size,0,ν⟩) L:=λk hk=>
 ⟨w.heap.size,0,rfl,by rw [VM];exact(ε _ _ k _ _ _ (η w _)).trans (by simp [hk])⟩
theorem MX(w:ο):VK μ 91 #[] w λe w'=>∃ a,e=ρ (σ a 17 17)/\SL w' a I8/\υ w.heap.size w w':=by
 go_enter Tryz.func91,Tryz.ntmps91
 go_wp2;go_ret
 exact⟨_,rfl,NQ w I8 _,(VT _ _).alloc (VD _) _⟩
theorem UC(a:Option Addr)(n c:Nat)(L:List ByteArray)(hn:L.length=n)(s:ByteArray)(w:ο)(h:SL w a L)(hn2:n<=1048576):VK μ 90 #[σ a n c,τ s] w λe w'=>e=ρ (β (JB s L))/\w'=w:=by
 go_enter Tryz.func90,Tryz.ntmps90
 go_wp2;go_loop [6,9] (λ_ i=>∃ k:Nat,k<=n/\i=ι κ k/\∀ j (hj:j<L.length),j<k->¬L[j]=s) (λ_ i=>n - (VQ i).toNat)
 case atStart=>exact⟨0,by omega,rfl,λj _ h=>by omega⟩
 case round=>
  obtain⟨k,hk,rfl,hall⟩:=hrel;by_cases hlt:k<n
  ·
   obtain⟨b,off,rfl,hc⟩:=h k (by omega);by_cases he:L[k]=s
   ·
    have he2:(L[k].toList == s.toList)=true:=by rw [Rm];simp [he]
    go_wp2;go_ret
    exact⟨AN (Mk (by omega) he).symm,rfl⟩
   ·
    have he2:(L[k].toList == s.toList)=false:=by rw [Rm];simp [he]
    go_wp2;go_round
    case rel=>exact⟨k+1,by omega,by go_num,λj hj hjk=>by
     by_cases e:j=k
     · subst e;exact he
     · exact hall j hj (by omega)⟩
    case measure=>simp [VQ];omega
  ·
   go_wp2;go_ret
   exact⟨AN (K8 λj hj=>hall j hj (by omega)).symm,rfl⟩
theorem EY(s:ByteArray)(w:ο)(hs:s.size<=1048576):VK μ 46 #[τ s] w λe w'=>e=ρ (β (AM s))/\υ w.heap.size w w':=by
 have hb0:=VT w.heap.size w;go_enter Tryz.func46,Tryz.ntmps46
 by_cases h0:0<s.size
 ·
  go_wp2_with (first | (go_at_call 76;refine(Cz _ 1 30 _).mono ?_;rintro e w1 ⟨rfl,rfl⟩;rcases hbt:Bn s.size 1 30) | (go_at_call 89;refine(Le _ _).mono ?_;rintro e w1 ⟨rfl,rfl⟩;rcases hl:FK s[0].toNat) | (go_at_call 91;refine(MX _).mono ?_;rintro e w1 ⟨a,rfl,hk1,hb2⟩) | (go_at_call 90;refine(UC _ 17 17 I8 rfl s _ hk1 (by omega)).mono ?_;rintro e w2 ⟨rfl,rfl⟩;rcases hm:JB s I8))
  ·
   go_ret
   exact⟨AN (by simp [Bn] at hbt;simp [AM,Cl,Eu h0] <;> omega),hb0⟩
  ·
   go_ret
   exact⟨AN (by simp [AM,Cl,Eu h0,hl]),hb0⟩
  ·
   go_loop [3] (λi=>∃ k:Nat,k<=s.size/\i=ι κ k/\∀ j (h:j<s.size),j<k->DT s[j].toNat=true) (λi=>s.size - (VQ i).toNat)
   case atStart=>exact⟨0,by omega,rfl,λj _ h=>by omega⟩
   case round=>
    obtain⟨k,hk,rfl,hall⟩:=hrel;by_cases hlt:k<s.size
    ·
     go_wp2_with (go_at_call 92;refine(Qy _ _).mono ?_;rintro e w1 ⟨rfl,rfl⟩;rcases hb:DT s[k].toNat)
     ·
      go_ret
      exact⟨AN (by simp [AM,Cl,EX (p:=DT) hlt hb]),hb2⟩
     ·
      go_round
      case rel=>exact⟨k+1,by omega,by go_num,λj h hj=>by
       by_cases e:j=k
       · subst e;exact hb
       · exact hall j h (by omega)⟩
      case measure=>simp [VQ];omega
    ·
     go_wp2;go_ret
     exact⟨AN (by simp [Bn] at hbt;simp [AM,Cl,E8 (p:=DT) (λj h=>hall j h (by omega)),Eu h0,hl,h0,hm];omega),hb2⟩
  ·
   go_ret
   exact⟨AN (by simp [AM,hm]),hb2⟩
 ·
  have hbt:Bn s.size 1 30=false:=by simp [Bn];omega
  go_wp2_with (go_at_call 76;refine(Cz _ 1 30 _).mono ?_;rintro e w1 ⟨rfl,rfl⟩;rw [hbt])
  go_ret
  exact⟨AN (by simp [AM,Cl,h0]),hb0⟩
end Go.Proofs.YtoeencbghldmdaaGreatDoor
namespace Go.Proofs.YtoeencbghldmdaaGreatDoor
open Go.RowKit
def SpT(w:ο):Prop:=∀ c:Nat,c<256->w.cell? ⟨0,c,ν⟩=ς (ι .u8 (if Lib.isSp (UInt8.ofNat c) then 1 else 0))
theorem SpT.later{w w':ο}(h:SpT w)(hb:υ w.heap.size w w'):SpT w':=λc hc=>AB hb (h c hc)
theorem OY(s:ByteArray)(w:ο)(hs:s.size<4294967281)(hascii:∀ (j:Nat) b,s.data.toList[j]?=ς b->b.toNat<128)(hT:SpT w):VK μ 96 #[τ s] w λe w'=>
 e=ρ (σ (ς ⟨w.heap.size,0,ν⟩) (Lib.fields s.data.toList).length (Lib.fields s.data.toList).length)/\w'=w.alloc (γ ((Lib.fields s.data.toList).map λl=>τ ⟨l.toArray⟩).toArray 9):=
 Any.strings_Fields_core Tryz.lays157 (by kernel_rfl) s w hs hascii hT
end Go.Proofs.YtoeencbghldmdaaGreatDoor
namespace Go.Proofs.YtoeencbghldmdaaGreatDoor
open Go.ChangeShapes Go.WideShapes Go.ChangeAt Go.RowKit
theorem RR:ownKnob Tryz.prog.godebug=ν:=by kernel_rfl
theorem G8:laidOutB μ=true:=by kernel_rfl
theorem Ux:Tryz.prog.globalNamed "strings.asciiSpace"=ς 0:=by kernel_rfl
theorem P1:(Tryz.prog.globals[0]?).map (·.type)=ς 162:=by kernel_rfl
theorem Ph:(Rows.laid_strings_asciiSpace:DataW Unit)=Lib.tabData .u8 Lib.asciiSpaceTab:=by kernel_rfl
theorem Qm{W:ο}(h:laidMetH μ [("unicode.White_Space",Rows.laid_unicode_White_Space),("strings.asciiSpace",Rows.laid_strings_asciiSpace)] W):SpT W:=by
 have h1:laidMet μ [("unicode.White_Space",Rows.laid_unicode_White_Space),("strings.asciiSpace",Rows.laid_strings_asciiSpace)] W:=h;have h2:=h1.tail;rw [Ph] at h2;have htab:=Lib.tabIs_of_head Ux P1 Tryz.underlying162 Tryz.underlying5 (by kernel_rfl) (by kernel_rfl) h2;intro c hc;rw [htab.cell Ux c (by rw [Lib.asciiSpaceTab_length];exact hc),Lib.asciiSpaceTab_at c hc]
end Go.Proofs.YtoeencbghldmdaaGreatDoor
namespace Go.Proofs.YtoeencbghldmdaaGreatDoor
open Go.RowKit Go.Maps Go.WideMaps
set_option maxRecDepth 20000
set_option maxHeartbeats 4000000
theorem Fk:Keyed μ 9:=string_keyed Tryz.underlying9
theorem R1(w:ο):(zeroValue 134).run μ w=.ok (χ #[]) w:=by kernel_rfl
def CQ(s:ByteArray):Lit:=.string s.data.toList
def KwAt(w:ο)(b:Nat):Prop:=w.ownsMap μ 9 (unitElem (H:=Unit)) b 17 (setOf (.agg []) (I8.map CQ))
theorem KwAt.later{w w':ο}{b:Nat}(h:KwAt w b)(hb:υ w.heap.size w w'):KwAt w' b:=by
 have hl:=h.lt;obtain⟨es,clock,h1,F,hs,hD⟩:=h;exact⟨es,clock,(hb.block _ hl).trans h1,F,hs,hD⟩
theorem Pz(L:List ByteArray)(s:ByteArray):Maps.has (setOf (H:=Unit) (.agg []) (L.map CQ)) (CQ s)=JB s L:=by
 rw [has_setOf _ _ _ (by intro x hx;obtain⟨y,_,rfl⟩:=List.mem_map.1 hx;exact trivial)];unfold JB;rw [List.any_map];congr 1
 funext x
 show (x.data.toList == s.data.toList)=_
 rw [←Rm,ByteArray.toList_eq,ByteArray.toList_eq]
theorem OX(s:ByteArray)(w:ο)(hs:s.size<4294967281)(hascii:(s.data.toList.all λb=>decide (b.toNat<128))=true)(hf:Lib.fields s.data.toList=I8.map λx=>x.data.toList)(hT:SpT w):VK μ 96 #[τ s] w λe w'=>
 e=ρ (σ (ς ⟨w.heap.size,0,ν⟩) 17 17)/\w'=w.alloc (γ (I8.map τ).toArray 9):=
 (OY s w hs (λj b hb=>by simpa using List.all_eq_true.1 hascii b (List.mem_of_getElem? hb)) hT).mono λe w' ⟨he,hw⟩=>by
  rw [hf] at he hw;exact⟨by rw [he,List.length_map];rfl,by rw [hw,List.map_map];rfl⟩
theorem Mg(k:Nat)(hk:k<I8.length):I8[k].size<=10:=by
 have h:I8.all (λx=>decide (x.size<=10))=true:=by kernel_rfl
 simpa using List.all_eq_true.1 h I8[k] (List.getElem_mem _)
theorem CZ(w:ο)(hT:SpT w):VK μ 58 #[] w λe w'=>∃ b,e=ρ (.map (ς b))/\KwAt w' b/\υ w.heap.size w w':=by
 have hmm:=@run_makeMap μ;go_enter Tryz.func58,Tryz.ntmps58
 go_wp2_with (go_at_call 96;refine(OX _ _ (by decide) (by kernel_rfl) (by kernel_rfl) (hT.later (AD _ _))).mono ?_;rintro e w1 ⟨rfl,rfl⟩)
 have e17:I8.length=17:=rfl;go_loopw [3,7] (λ_ i wr=>∃ k:Nat,k<=17/\i=ι κ k/\wr.ownsMap μ 9 (unitElem (H:=Unit)) w.heap.size k (setOf (.agg []) ((I8.take k).map CQ))/\υ w.heap.size w wr/\SL wr (ς ⟨w.heap.size+1,0,ν⟩) I8) (λ_ i _=>17 - (VQ i).toNat)
 case atStart=>
  refine⟨0,by omega,rfl,?_,AA (AD _ _) (AD _ _),?_⟩
  · exact(World.ownsMap_made w μ 9 (unitElem (H:=Unit))).alloc _
  · have h:=NQ (w.alloc (.map #[] 0)) I8 9;simpa using h
 case round=>
  obtain⟨k,hk,rfl,hown,hb,hS⟩:=hrel;by_cases hlt:k<17
  ·
   obtain⟨b,off,e,hc⟩:=hS k (by omega);obtain⟨rfl,rfl⟩:w.heap.size+1=b/\0=off:=by simpa using e
   have hsh:=Mg k (by omega);rw [VM] at hc;have hkey:keyOf μ 9 (τ I8[k])=ς (CQ I8[k]):=keyOf_string_mk Tryz.underlying9 (by unfold maxLen;omega);go_wp2_with (first | (at_mapUpdate;refine wpList_mapUpdate_own _ rfl _ _ _ 102 rfl 9 134 Fk Tryz.underlying102 (unitElem (H:=Unit)) w.heap.size k _ rfl hown (by unfold maxLen;omega) _ _ _ rfl rfl hkey _ [] unitElem_mk ?_;intro w1 hown1 hgrow1) | go_in)
   go_roundw
   case rel=>
    refine⟨k+1,by omega,by go_num,?_,hb.grown hgrow1 hb.size (λj hj=>by cases hj;exact VD _),λj hj=>?_⟩
    · rw [List.take_succ_eq_append_getElem (by omega),List.map_append,List.map_cons,List.map_nil,setOf_snoc];exact hown1
    ·
     obtain⟨b',off',e',hc'⟩:=hS j hj;obtain⟨rfl,rfl⟩:w.heap.size+1=b'/\0=off':=by simpa using e'
     refine⟨_,_,rfl,?_⟩;exact hgrow1.cell hc' (by simp)
   case measure=>simp [VQ];omega
  ·
   obtain rfl:k=17:=by omega
   go_wp2;go_ret
   exact⟨_,rfl,hown,hb⟩
theorem Df(b:Nat)(s:ByteArray)(w:ο)(hK:KwAt w b)(hs:s.size<=1048576):VK μ 62 #[.map (ς b),τ s] w λe w'=>e=ρ (β (AM s))/\υ w.heap.size w w':=by
 have hkey:keyOf μ 9 (τ s)=ς (CQ s):=keyOf_string_mk Tryz.underlying9 (by unfold maxLen;omega);have hh:=Pz I8 s;go_enter Tryz.func62,Tryz.ntmps62
 go_wp2_with (first | (at_lookup;refine wpList_lookup_own_unit _ rfl _ _ 102 rfl 9 134 Fk Tryz.underlying102 (R1 _) b 17 _ rfl hK _ _ rfl hkey ?_;rw [hh]) | (go_at_call 104;refine(TA s _ hs).mono ?_;rintro e w1 ⟨rfl,rfl⟩;rcases ho:Cl s) | go_in)
 all_goals
  go_ret
  exact⟨AN (by simp [AM,ho]),AD _ _⟩
set_option maxHeartbeats 2000000
theorem NA(s:ByteArray):s.toList.isEmpty=decide (s.size=0):=by
 rw [Bool.eq_iff_iff,List.isEmpty_iff,BY];simp
def Aa(t m:Int)(s:ByteArray):Bool:=(t == 1 && C0 m && decide (s.size=0)) || (t == 2 && m == 0 && A6 s)
def Aq(o m:Int)(s:ByteArray):Bool:=(o == 1 && C0 m && decide (s.size=0)) || (o == 2 && m == 0 && A6 s) || (o == 3 && m == 0 && AM s) || (Bn o 4 13 && m == 0 && decide (s.size=0))
def BI(s:ByteArray)(t:Int):Bool:=AM s && C9 t
theorem Lt{w w2:ο}{x y:VN}{t:TypeId}(hb:υ (w.alloc (γ #[x,y] t)).heap.size (w.alloc (γ #[x,y] t)) w2) :
 w2.cell? ⟨w.heap.size,0,ν⟩=ς x/\w2.cell? ⟨w.heap.size,1,ν⟩=ς y:=by
 have h0:(w.alloc (γ #[x,y] t)).cell? ⟨w.heap.size,0,ν⟩=ς x:=(ε _ _ 0 _ _ _ (η w _)).trans rfl;have h1:(w.alloc (γ #[x,y] t)).cell? ⟨w.heap.size,1,ν⟩=ς y:=(ε _ _ 1 _ _ _ (η w _)).trans rfl;exact⟨AB hb h0,AB hb h1⟩
theorem IZ{w w2:ο}{x y z:VN}{t:TypeId}(hb:υ (w.alloc (γ #[x,y,z] t)).heap.size (w.alloc (γ #[x,y,z] t)) w2) :
 w2.cell? ⟨w.heap.size,0,ν⟩=ς x/\w2.cell? ⟨w.heap.size,1,ν⟩=ς y/\w2.cell? ⟨w.heap.size,2,ν⟩=ς z:=by
 have h0:(w.alloc (γ #[x,y,z] t)).cell? ⟨w.heap.size,0,ν⟩=ς x:=(ε _ _ 0 _ _ _ (η w _)).trans rfl;have h1:(w.alloc (γ #[x,y,z] t)).cell? ⟨w.heap.size,1,ν⟩=ς y:=(ε _ _ 1 _ _ _ (η w _)).trans rfl;have h2:(w.alloc (γ #[x,y,z] t)).cell? ⟨w.heap.size,2,ν⟩=ς z:=(ε _ _ 2 _ _ _ (η w _)).trans rfl;exact⟨AB hb h0,AB hb h1,AB hb h2⟩
theorem bj{w wr w2:ο}{o:Obj}(hb:υ w.heap.size w wr)(h:υ (wr.alloc o).heap.size (wr.alloc o) w2):υ w.heap.size w w2:=hb.trans ((C1 h).mono hb.size)
theorem Qv(t m:Int)(s:ByteArray)(w:ο)(hs:s.size<=1048576):VK μ 48 #[χ #[ι κ t,ι κ m,τ s]] w λe w'=>e=ρ (β (Aa t m s))/\υ w.heap.size w w':=by
 have hE:=NA s;go_enter Tryz.func48,Tryz.ntmps48
 by_cases h1:t=1
 ·
  subst h1;go_wp2_with (first | (go_at_call 93;refine(In _ _).mono ?_;rintro e w1 ⟨rfl,rfl⟩;rcases hn:C0 m) | (go_at_call 94;refine(Lc s _ hs).mono ?_;rintro e w1 ⟨rfl,rfl⟩;rcases ht:A6 s))
  all_goals
   go_ret
   exact⟨AN (by simp [Aa, *]),AD _ _⟩
 ·
  have h1':(t == 1)=false:=by simp [h1]
  by_cases h2:t=2
  ·
   subst h2;go_wp2_with (first | (go_at_call 93;refine(In _ _).mono ?_;rintro e w1 ⟨rfl,rfl⟩;rcases hn:C0 m) | (go_at_call 94;refine(Lc s _ hs).mono ?_;rintro e w1 ⟨rfl,rfl⟩;rcases ht:A6 s))
   all_goals
    go_ret
    exact⟨AN (by simp [Aa, *]),AD _ _⟩
  ·
   have h2':(t == 2)=false:=by simp [h2]
   go_wp2;go_ret
   exact⟨AN (by simp [Aa, *]),AD _ _⟩
theorem JD(t m:Int)(s:ByteArray)(w:ο)(hs:s.size<=1048576):VK μ 67 #[χ #[ι κ t,ι κ m,τ s]] w λe w'=>e=ρ (β (Aa t m s))/\υ w.heap.size w w':=by
 have hE:=NA s;go_enter Tryz.func67,Tryz.ntmps67
 by_cases h1:t=1
 ·
  subst h1;go_wp2_with (first | (go_at_call 105;refine(JG _ _).mono ?_;rintro e w1 ⟨rfl,rfl⟩;rcases hn:C0 m) | (go_at_call 106;refine(OE s _ hs).mono ?_;rintro e w1 ⟨rfl,rfl⟩;rcases ht:A6 s))
  all_goals
   go_ret
   exact⟨AN (by simp [Aa, *]),AD _ _⟩
 ·
  have h1':(t == 1)=false:=by simp [h1]
  by_cases h2:t=2
  ·
   subst h2;go_wp2_with (first | (go_at_call 105;refine(JG _ _).mono ?_;rintro e w1 ⟨rfl,rfl⟩;rcases hn:C0 m) | (go_at_call 106;refine(OE s _ hs).mono ?_;rintro e w1 ⟨rfl,rfl⟩;rcases ht:A6 s))
   all_goals
    go_ret
    exact⟨AN (by simp [Aa, *]),AD _ _⟩
  ·
   have h2':(t == 2)=false:=by simp [h2]
   go_wp2;go_ret
   exact⟨AN (by simp [Aa, *]),AD _ _⟩
theorem Pv(b:Nat)(s:ByteArray)(t:Int)(w:ο)(hK:KwAt w b)(hs:s.size<=1048576):VK μ 65 #[.map (ς b),χ #[τ s,ι κ t]] w λe w'=>e=ρ (β (BI s t))/\υ w.heap.size w w':=by
 have hK1:=hK.later (AD w (γ #[τ s,ι κ t] 58));go_enter Tryz.func65,Tryz.ntmps65
 go_wp2_with (go_at_call 62;refine(Df b s _ hK1 hs).mono ?_;rintro e w1 ⟨rfl,hb⟩;obtain⟨d0,d1⟩:=Lt hb;rcases hn:AM s)
 all_goals
  go_ret
  exact⟨AN (by simp [BI,C9, *]),C1 hb⟩
theorem SC(o m:Int)(s:ByteArray)(w:ο)(hs:s.size<=1048576):VK μ 95 #[χ #[ι κ o,ι κ m,τ s]] w λe w'=>e=ρ (β (Aq o m s))/\υ w.heap.size w w':=by
 have hE:=NA s;go_enter Tryz.func95,Tryz.ntmps95
 by_cases h1:o=1
 ·
  subst h1;have hbt:Bn 1 4 13=false:=rfl;go_wp2_with (go_at_call 93;refine(In _ _).mono ?_;rintro e w1 ⟨rfl,rfl⟩;rcases hn:C0 m)
  all_goals
   go_ret
   exact⟨AN (by simp [Aq, *]),AD _ _⟩
 have h1':(o == 1)=false:=by simp [h1]
 by_cases h2:o=2
 ·
  subst h2;have hbt:Bn 2 4 13=false:=rfl;go_wp2_with (go_at_call 94;refine(Lc s _ hs).mono ?_;rintro e w1 ⟨rfl,rfl⟩;rcases ht:A6 s)
  all_goals
   go_ret
   exact⟨AN (by simp [Aq, *]),AD _ _⟩
 have h2':(o == 2)=false:=by simp [h2]
 by_cases h3:o=3
 ·
  subst h3;have hbt:Bn 3 4 13=false:=rfl;go_wp2_with (go_at_call 46;refine(EY s _ hs).mono ?_;rintro e w1 ⟨rfl,hb2⟩;rcases ht:AM s)
  all_goals
   go_ret
   first
    | exact⟨AN (by simp [Aq, *]),AD _ _⟩
    | exact⟨AN (by simp [Aq, *]),C1 hb2⟩
 have h3':(o == 3)=false:=by simp [h3]
 go_wp2_with (go_at_call 76;refine(Cz _ 4 13 _).mono ?_;rintro e w1 ⟨rfl,rfl⟩;rcases hbt:Bn o 4 13)
 all_goals
  go_ret
  exact⟨AN (by simp [Aq, *]),AD _ _⟩
set_option maxHeartbeats 4000000
structure Itm where
 o:Int
 m:Int
 s:ByteArray
def IL(w:ο)(a:Option Addr)(n:Nat)(I:Nat->Itm):Prop:=
 ∀ k,k<n->∃ b off,a=ς ⟨b,off,ν⟩/\w.cell? ⟨b,off+k * 3,ν⟩=ς (ι κ (I k).o)/\w.cell? ⟨b,off+k * 3+1,ν⟩=ς (ι κ (I k).m)/\w.cell? ⟨b,off+k * 3+2,ν⟩=ς (τ (I k).s)/\(I k).s.size<=1048576
theorem IL.later{w w':ο}{a:Option Addr}{n:Nat}{I:Nat->Itm}(h:IL w a n I)(hb:υ w.heap.size w w'):IL w' a n I:=λk hk=>by
 obtain⟨b,off,e,h0,h1,h2,hs⟩:=h k hk;exact⟨b,off,e,AB hb h0,AB hb h1,AB hb h2,hs⟩
def ex(I:Nat->Itm):Nat->Option Int
 | 0=>ς 0
 | k+1=>match ex I k with
  | none=>ν
  | some d=>if Aq (I k).o (I k).m (I k).s=true/\AW (I k).o<=d then ς (d+(1 - AW (I k).o)) else ν
theorem L7{I:Nat->Itm}{k:Nat}(h:ex I k=ν):∀ n,k<=n->ex I n=ν:=by
 intro n hn;induction n with
 | zero=>
  obtain rfl:k=0:=by omega
  exact h
 | succ n ih=>
  by_cases e:k=n+1
  · subst e;exact h
  · rw [ex,ih (by omega)]
theorem CV(o:Int):0<=AW o/\AW o<=2:=by unfold AW;(repeat' split) <;> omega
theorem Hg{I:Nat->Itm}:∀ {k:Nat} {d:Int},ex I k=ς d->0<=d/\d<=k:=by
 intro k;induction k with
 | zero=>intro d h;simp [ex] at h;omega
 | succ k ih=>
  intro d h;have ha:=CV (I k).o;rw [ex] at h;split at h
  · cases h
  ·
   rename_i x hx
   have:=ih hx;split at h
   ·
    rename_i hc
    cases h
    omega
   · cases h
def AZ(I:Nat->Itm)(n:Nat):Bool:=Bn n 1 100 && decide (ex I n=ς 1)
def AI(I:Nat->Itm)(n:Nat):Bool:=decide (n=0) || AZ I n
theorem Qz(a:Option Addr)(n c:Nat)(I:Nat->Itm)(w:ο)(h:IL w a n I)(hn:n<=1048576):VK μ 49 #[σ a n c] w λe w'=>e=ρ (β (AZ I n))/\υ w.heap.size w w':=by
 have hb0:=VT w.heap.size w;go_enter Tryz.func49,Tryz.ntmps49
 go_wp2_with (go_at_call 76;refine(Cz _ 1 100 _).mono ?_;rintro e w1 ⟨rfl,rfl⟩;rcases hbt:Bn n 1 100)
 ·
  go_ret
  exact⟨AN (by simp [AZ,hbt]),hb0⟩
 ·
  go_loopw [3,5,12] (λd _ i wr=>∃ (k:Nat) (x:Int),k<=n/\i=ι κ k/\d=ι κ x/\ex I k=ς x/\υ w1.heap.size w1 wr) (λ_ _ i _=>n - (VQ i).toNat)
  case atStart=>exact⟨0,0,by omega,rfl,rfl,rfl,hb0⟩
  case round=>
   obtain⟨k,x,hk,rfl,rfl,hx,hb⟩:=hrel;have hxl:=Hg hx;by_cases hlt:k<n
   ·
    have hst:ex I (k+1)=if Aq (I k).o (I k).m (I k).s=true/\AW (I k).o<=x then ς (x+(1 - AW (I k).o)) else ν:=by rw [ex,hx]
    obtain⟨b,off,rfl,c0,c1,c2,hs⟩:=h.later hb k hlt;have ha:=CV (I k).o;go_wp2_with (first | (go_at_call 95;refine(SC _ _ _ _ hs).mono ?_;rintro e w2 ⟨rfl,hb2⟩;obtain⟨d0,d1,d2⟩:=IZ hb2;replace hb2:=bj hb hb2;rcases ho:Aq (I k).o (I k).m (I k).s) | (go_at_call 56;refine(Ba (I k).o _).mono ?_;rintro e w3 ⟨rfl,rfl⟩))
    ·
     go_ret
     exact⟨AN (by simp [AZ,L7 (hst.trans (by simp [ho])) n (by omega)]),hb2⟩
    ·
     go_ret
     exact⟨AN (by simp [AZ,L7 (hst.trans (by rw [if_neg];omega)) n (by omega)]),hb2⟩
    ·
     go_roundw
     case rel=>exact⟨k+1,x+(1 - AW (I k).o),by omega,by go_num,rfl,hst.trans (by rw [if_pos];exact⟨ho,by omega⟩),hb2⟩
     case measure=>simp [VQ];omega
   ·
    obtain rfl:k=n:=by omega
    go_wp2;go_ret
    exact⟨AN (Bool.eq_iff_iff.2 (by simp [AZ,hbt,hx])),hb⟩
theorem Kr(a:Option Addr)(n c:Nat)(I:Nat->Itm)(w:ο)(h:IL w a n I)(hn:n<=1048576):VK μ 50 #[σ a n c] w λe w'=>e=ρ (β (AI I n))/\υ w.heap.size w w':=by
 have hb0:=VT w.heap.size w;go_enter Tryz.func50,Tryz.ntmps50
 by_cases h0:n=0
 ·
  subst h0;go_wp2;go_ret
  exact⟨AN (by simp [AI]),hb0⟩
 ·
  have h0':((n:Int) == 0)=false:=by simp;omega
  go_wp2_with (go_at_call 49;refine(Qz a n c I _ h hn).mono ?_;rintro e w1 ⟨rfl,hb1⟩)
  go_ret
  exact⟨AN (by simp [AI,h0]),hb1⟩
set_option maxHeartbeats 2000000
def Dj(o:Int):Bool:=Bn o 4 10 || o == 12
theorem TK(o:Int)(w:ο):VK μ 159 #[ι κ o] w λe w'=>∃ s:ByteArray,e=ρ (τ s)/\(s.size=0↔Dj o=false)/\w'=w:=by
 go_enter Tryz.func159,Tryz.ntmps159
 go_wp2;all_goals
  go_ret
  exact⟨_,rfl,by
   (try simp only [beq_iff_eq,beq_eq_false_iff_ne,ne_eq] at *)
   first
    | (subst_vars;decide)
    | (
     have h1:(⟨#[]⟩:ByteArray).size=0:=rfl;simp [Dj,Bn,h1] <;> omega),rfl⟩
theorem RH{a b:Int}(h:a=b):ρ (ι κ a)=ρ (ι κ b):=by rw [h]
def EC(o m:Int)(s:ByteArray):Int:=
 if (o=1/\s.size=0)∨(o=2/\m=0)∨(o=3/\m=0) then 0 else if (o=11∨o=13)/\m=0/\s.size=0 then 1 else if m=0/\s.size=0/\Dj o=true then 2 else -1
theorem DL(o m:Int)(s:ByteArray)(w:ο):VK μ 133 #[χ #[ι κ o,ι κ m,τ s]] w λe w'=>e=ρ (ι κ (EC o m s))/\υ w.heap.size w w':=by
 have hE:=NA s;have h0:ByteArray.empty.size=0:=rfl;have hz:s.size=0↔s=VG:=by
  constructor
  · intro h;exact BD (((BY s).2 h).trans ((BY _).2 rfl).symm)
  · rintro rfl;rfl
 by_cases hs:s=VG
 ·
  by_cases hm:m=0
  ·
   subst hs hm;go_enter Tryz.func133,Tryz.ntmps133
   go_wp2_with (go_at_call 159;refine(TK o _).mono ?_;rintro e w1 ⟨sg,rfl,hsg,rfl⟩;rw [←BY] at hsg;by_cases hq:sg.toList=[])
   all_goals
    go_ret
    exact⟨RH (by simp_all [EC]),AD _ _⟩
  ·
   subst hs;have hm':(m == 0)=false:=by simp [hm]
   go_enter Tryz.func133,Tryz.ntmps133
   go_wp2;all_goals
    go_ret
    exact⟨RH (by simp_all [EC]),AD _ _⟩
 ·
  go_enter Tryz.func133,Tryz.ntmps133
  go_wp2;all_goals
   go_ret
   exact⟨RH (by simp_all [EC]),AD _ _⟩
structure Tr where
 ty:TypeId
 fn:Nat
 pay:VN
 ok:Bool
def Tr.num(n:Int):Tr:=⟨198,223,ι κ n,C0 n⟩
def Tr.txt(s:ByteArray):Tr:=⟨199,224,τ s,A6 s⟩
def Tr.col(s:ByteArray):Tr:=⟨200,225,τ s,AM s⟩
def Tr.one(o:Int)(t:Tr):Tr:=⟨202,226,χ #[ι κ o,.iface t.ty t.pay],t.ok⟩
def Tr.two(o:Int)(a b:Tr):Tr:=⟨204,227,χ #[ι κ o,.iface a.ty a.pay,.iface b.ty b.pay],a.ok && b.ok⟩
def Tr.fit(t:Tr):Prop:=(∀ w,(method 377 t.ty t.pay "loop.example/s02884/impl.fits").run μ w=.ok (t.fn,t.pay) w)/\(∀ args w,(callFunc t.fn args).run μ w=.ok (.enter t.fn args) w)/\∀ b w,KwAt w b->VK μ t.fn #[t.pay,.map (ς b)] w λe w'=>e=ρ (β t.ok)/\υ w.heap.size w w'
theorem P6(n:Int):(Tr.num n).fit:=by
 refine⟨λw=>by kernel_rfl,λargs w=>by kernel_rfl,λb w _=>?_⟩;show VK μ 223 #[ι κ n,.map (ς b)] w λe w'=>e=ρ (β (C0 n))/\υ w.heap.size w w'
 go_enter Tryz.func223,Tryz.ntmps223
 go_wp2_with (go_at_call 105;refine(JG _ _).mono ?_;rintro e w1 ⟨rfl,rfl⟩)
 go_ret
 exact⟨rfl,VT _ _⟩
theorem P4(s:ByteArray)(hs:s.size<=1048576):(Tr.txt s).fit:=by
 refine⟨λw=>by kernel_rfl,λargs w=>by kernel_rfl,λb w _=>?_⟩;show VK μ 224 #[τ s,.map (ς b)] w λe w'=>e=ρ (β (A6 s))/\υ w.heap.size w w'
 go_enter Tryz.func224,Tryz.ntmps224
 go_wp2_with (go_at_call 106;refine(OE _ _ hs).mono ?_;rintro e w1 ⟨rfl,rfl⟩)
 go_ret
 exact⟨rfl,VT _ _⟩
theorem P7(s:ByteArray)(hs:s.size<=1048576):(Tr.col s).fit:=by
 refine⟨λw=>by kernel_rfl,λargs w=>by kernel_rfl,λb w hK=>?_⟩;show VK μ 225 #[τ s,.map (ς b)] w λe w'=>e=ρ (β (AM s))/\υ w.heap.size w w'
 go_enter Tryz.func225,Tryz.ntmps225
 go_wp2_with (go_at_call 62;refine(Df b _ _ hK hs).mono ?_;rintro e w1 ⟨rfl,hb⟩)
 go_ret
 exact⟨rfl,hb⟩
theorem L5(o:Int){p:Tr}(h:p.fit):(Tr.one o p).fit:=by
 refine⟨λw=>by kernel_rfl,λargs w=>by kernel_rfl,λb w hK=>?_⟩;show VK μ 226 #[χ #[ι κ o,.iface p.ty p.pay],.map (ς b)] w λe w'=>e=ρ (β p.ok)/\υ w.heap.size w w'
 have m1:=h.1;have n1:=h.2.1;have hp:=h.2.2 b;have hK1:=hK.later (AD w (γ #[ι κ o,.iface p.ty p.pay] 202));go_enter Tryz.func226,Tryz.ntmps226
 go_wp2_with (refine(hp _ hK1).mono ?_;rintro e w1 ⟨rfl,hb⟩)
 go_ret
 exact⟨rfl,C1 hb⟩
theorem P5(o:Int){p q:Tr}(h:p.fit)(h2:q.fit):(Tr.two o p q).fit:=by
 refine⟨λw=>by kernel_rfl,λargs w=>by kernel_rfl,λb w hK=>?_⟩;show VK μ 227 #[χ #[ι κ o,.iface p.ty p.pay,.iface q.ty q.pay],.map (ς b)] w λe w'=>e=ρ (β (p.ok && q.ok))/\υ w.heap.size w w'
 have m1:=h.1;have n1:=h.2.1;have m2:=h2.1;have n2:=h2.2.1;have hp:=h.2.2 b;have hq:=h2.2.2 b;have hK1:=hK.later (AD w (γ #[ι κ o,.iface p.ty p.pay,.iface q.ty q.pay] 204));go_enter Tryz.func227,Tryz.ntmps227
 go_wp2_with (first | (have _h:=hb;refine(hq _ (hK1.later hb)).mono ?_;rintro e w2 ⟨rfl,hb2⟩) | (refine(hp _ hK1).mono ?_;rintro e w1 ⟨rfl,hb⟩;obtain⟨d0,d1,d2⟩:=IZ hb;rcases ho:p.ok))
 ·
  go_ret
  exact⟨AN (by simp [ho]),C1 hb⟩
 ·
  go_ret
  exact⟨AN (by simp [ho]),C1 (AA hb hb2)⟩
theorem OW(b:Nat)(t:Tr)(w:ο)(h:t.fit)(hK:KwAt w b):VK μ t.fn #[t.pay,.map (ς b)] w λe w'=>e=ρ (β t.ok)/\υ w.heap.size w w':=h.2.2 b w hK
set_option maxHeartbeats 4000000
def NL(w:ο)(a:Option Addr)(n:Nat)(S:Nat->Tr):Prop:=
 ∀ k,k<n->∃ b off,a=ς ⟨b,off,ν⟩/\w.cell? ⟨b,off+k,ν⟩=ς (.iface (S k).ty (S k).pay)
theorem NL.later{w w':ο}{a:Option Addr}{n:Nat}{S:Nat->Tr}(h:NL w a n S)(hb:υ w.heap.size w w'):NL w' a n S:=λk hk=>by
 obtain⟨b,off,e,h0⟩:=h k hk;exact⟨b,off,e,AB hb h0⟩
def Ff(o m:Int)(s:ByteArray)(S:Nat->Tr):Tr:=
 if o=1 then .num m else if o=2 then .txt s else if o=3 then .col s else if o=11∨o=13 then .one o (S 0) else .two o (S 0) (S 1)
theorem Qe(w:ο)(n:Nat):υ w.heap.size w (w.drewN n):=⟨rfl,rfl,rfl,VD _,λ_ _=>rfl⟩
theorem Ib(o m:Int)(s:ByteArray)(a:Option Addr)(n c:Nat)(S:Nat->Tr)(w:ο)(h:NL w a n S)(hn:EC o m s=n)(hcap:n<=1048576):VK μ 134 #[χ #[ι κ o,ι κ m,τ s],σ a n c] w λe w'=>e=ρ (.iface (Ff o m s S).ty (Ff o m s S).pay)/\υ w.heap.size w w':=by
 have hb0:=AD w (γ #[ι κ o,ι κ m,τ s] 42);go_enter Tryz.func134,Tryz.ntmps134
 by_cases h1:o=1
 ·
  subst h1;go_wp2;go_ret
  exact⟨rfl,hb0⟩
 have h1':(o == 1)=false:=by simp [h1]
 by_cases h2:o=2
 ·
  subst h2;go_wp2;go_ret
  exact⟨rfl,hb0⟩
 have h2':(o == 2)=false:=by simp [h2]
 by_cases h3:o=3
 ·
  subst h3;go_wp2;go_ret
  exact⟨rfl,hb0⟩
 have h3':(o == 3)=false:=by simp [h3]
 by_cases h4:o=11∨o=13
 ·
  have e1:n=1:=by
   have:EC o m s=1∨EC o m s<0∨EC o m s=2:=by unfold EC;(repeat' split) <;> omega
   have h5:EC o m s≠2:=by
    unfold EC;have:Dj o=false:=by rcases h4 with rfl | rfl <;> rfl
    simp [this]
    (repeat' split) <;> omega
   omega
  subst e1;obtain⟨b,off,rfl,c0⟩:=h.later hb0 0 (by omega);rw [Vf] at c0;have hm:Ff o m s S=.one o (S 0):=by simp [Ff,h1,h2,h3,h4]
  rw [hm];rcases h4 with rfl | rfl
  all_goals
   go_wp2;go_quiet (fail)
   go_wp2;go_ret
   exact⟨rfl,AA hb0 (Qe _ _)⟩
 ·
  have h11:(o == 11)=false:=by simp;omega
  have h13:(o == 13)=false:=by simp;omega
  have e2:n=2:=by
   have:EC o m s=2∨EC o m s<0:=by
    unfold EC;rw [if_neg (by omega),if_neg (by omega)];split <;> omega
   omega
  subst e2;obtain⟨b,off,rfl,c0⟩:=h.later hb0 0 (by omega);rw [Vf] at c0;obtain⟨b',off',e,c1⟩:=h.later hb0 1 (by omega);obtain⟨rfl,rfl⟩:b=b'/\off=off':=by simpa using e
  have hm:Ff o m s S=.two o (S 0) (S 1):=by simp [Ff,h1,h2,h3,h4]
  rw [hm];go_wp2;go_quiet (fail)
  go_wp2;go_ret
  exact⟨rfl,AA hb0 (Qe _ _)⟩
def Di(i:Itm):Bool:=(!(i.o == 1) || C0 i.m) && (!(i.o == 2) || A6 i.s) && (!(i.o == 3) || AM i.s)
theorem K7(i:Itm):Aq i.o i.m i.s=(decide (0<=EC i.o i.m i.s) && Di i):=by
 obtain⟨o,m,s⟩:=i;rw [Bool.eq_iff_iff];simp only [Aq,Di,EC,Dj,Bn]
 by_cases h1:o=1
 · subst h1;by_cases hs:s.size=0 <;> simp [hs]
 by_cases h2:o=2
 · subst h2;by_cases hm:m=0 <;> simp [hm]
 by_cases h3:o=3
 · subst h3;by_cases hm:m=0 <;> simp [hm]
 by_cases hm:m=0
 ·
  by_cases hs:s.size=0
  ·
   simp [h1,h2,h3,hm,hs]
   (repeat' split) <;> omega
  · simp [h1,h2,h3,hm,hs]
 · simp [h1,h2,h3,hm]
theorem Ik{o:Int}(h:Dj o=true):o≠1/\o≠2/\o≠3/\o≠11/\o≠13/\3<o:=by
 simp [Dj,Bn] at h
 omega
theorem F3{i:Itm}{q:Int}(h:EC i.o i.m i.s=q)(h0:0<=q):(q=0/\(i.o=1∨i.o=2∨i.o=3))∨(q=1/\(i.o=11∨i.o=13))∨(q=2/\Dj i.o=true):=by
 unfold EC at h;split at h
 · left;omega
 ·
  split at h
  · right;left;omega
  ·
   split at h
   ·
    rename_i h3
    exact Vb (Vb ⟨h.symm,h3.2.2⟩)
   · omega
theorem Md(i:Itm)(h:0<=EC i.o i.m i.s):EC i.o i.m i.s=AW i.o:=by
 unfold AW;rcases F3 rfl h with ⟨e,h1⟩ | ⟨e,h1⟩ | ⟨e,h1⟩
 · rw [e,if_pos (by omega)]
 · rw [e,if_neg (by omega),if_pos h1]
 · have:=Ik h1;rw [e,if_neg (by omega),if_neg (by omega)]
def sh(I:Nat->Itm):Nat->Option Int
 | 0=>ς 0
 | k+1=>match sh I k with
  | none=>ν
  | some d=>if 0<=EC (I k).o (I k).m (I k).s/\EC (I k).o (I k).m (I k).s<=d then ς (d+(1 - EC (I k).o (I k).m (I k).s)) else ν
def lf(I:Nat->Itm):Nat->Bool
 | 0=>true
 | k+1=>lf I k && Di (I k)
theorem Ob(I:Nat->Itm):∀ k,ex I k=if lf I k=true then sh I k else ν
 | 0=>rfl
 | k+1=>by
  rw [ex,Ob I k,lf,sh];by_cases hl:lf I k=true
  ·
   rw [if_pos hl,hl];cases hs:sh I k with
   | none=>simp
   | some d=>
    simp only [K7 (I k)]
    by_cases h0:0<=EC (I k).o (I k).m (I k).s
    · rw [←Md (I k) h0];by_cases hf:Di (I k)=true <;> simp [h0,hf]
    · simp [h0]
  · simp [hl]
theorem PM{I:Nat->Itm}{k:Nat}(h:sh I k=ν):∀ n,k<=n->sh I n=ν:=by
 intro n hn;induction n with
 | zero=>
  obtain rfl:k=0:=by omega
  exact h
 | succ n ih=>
  by_cases e:k=n+1
  · subst e;exact h
  · rw [sh,ih (by omega)]
theorem OZ{I:Nat->Itm}{n:Nat}(h:sh I n≠ς 1):AZ I n=false:=by
 simp only [AZ,Ob]
 by_cases hl:lf I n=true <;> simp [hl,h]
theorem P8{I:Nat->Itm}{n:Nat}(h:sh I n=ς 1)(hn:n<=100):AZ I n=lf I n:=by
 have h1:1<=n:=by
  by_cases e:n=0
  · subst e;simp [sh] at h
  · omega
 simp only [AZ,Ob,Bn]
 by_cases hl:lf I n=true
 · simp [hl,h];omega
 · simp [hl]
theorem Oa{I:Nat->Itm}{n:Nat}(hn:100<n):AZ I n=false:=by
 simp only [AZ,Bn]
 simp
 omega
def Tr.val(t:Tr):VN:=.iface t.ty t.pay
theorem Nz(i:Itm)(S:Nat->Tr)(q:Nat)(hq:EC i.o i.m i.s=q):(Ff i.o i.m i.s S).ok=(Di i && ((List.range q).all λj=>(S j).ok)):=by
 obtain⟨o,m,s⟩:=i;rcases F3 hq (by omega) with ⟨e,h1⟩ | ⟨e,h1⟩ | ⟨e,h1⟩
 ·
  obtain rfl:q=0:=by omega
  rcases h1 with h1 | h1 | h1 <;> (dsimp only at h1;subst h1;simp [Ff,Di,Tr.num,Tr.txt,Tr.col])
 ·
  obtain rfl:q=1:=by omega
  rcases h1 with h1 | h1 <;> (dsimp only at h1;subst h1;simp [Ff,Di,Tr.one,List.range_succ])
 ·
  obtain rfl:q=2:=by omega
  dsimp only at h1
  have:=Ik h1;simp [Ff,Di,Tr.two,List.range_succ,this]
theorem Lm(i:Itm)(S:Nat->Tr)(q:Nat)(hq:EC i.o i.m i.s=q)(hs:i.s.size<=1048576)(h:∀ j,j<q->(S j).fit):(Ff i.o i.m i.s S).fit:=by
 obtain⟨o,m,s⟩:=i;rcases F3 hq (by omega) with ⟨e,h1⟩ | ⟨e,h1⟩ | ⟨e,h1⟩
 ·
  rcases h1 with h1 | h1 | h1 <;> (dsimp only at h1;subst h1)
  · exact(show Ff 1 m s S=.num m by simp [Ff]) ▸ P6 m
  · exact(show Ff 2 m s S=.txt s by simp [Ff]) ▸ P4 s hs
  · exact(show Ff 3 m s S=.col s by simp [Ff]) ▸ P7 s hs
 ·
  obtain rfl:q=1:=by omega
  rcases h1 with h1 | h1 <;> (dsimp only at h1;subst h1)
  · exact(show Ff 11 m s S=.one 11 (S 0) by simp [Ff]) ▸ L5 11 (h 0 (by omega))
  · exact(show Ff 13 m s S=.one 13 (S 0) by simp [Ff]) ▸ L5 13 (h 0 (by omega))
 ·
  obtain rfl:q=2:=by omega
  dsimp only at h1
  have h2:=Ik h1;exact(show Ff o m s S=.two o (S 0) (S 1) by simp [Ff,h2]) ▸ P5 o (h 0 (by omega)) (h 1 (by omega))
set_option maxHeartbeats 8000000
abbrev Sg:Oper:=⟨ς 36,.load 42 (δ 6),42,"l4_stm.go:341",#[],ν⟩
theorem AF{w w':ο}{base e size n:Nat}{v:VN}{xs:List VN}(h:w.ownsRow base e size v n xs)(hb:υ w.heap.size w w'):w'.ownsRow base e size v n xs:=by
 obtain⟨hl,hh⟩:=h;refine⟨hl,?_⟩;rcases hh with hh | ⟨gg,cap,cur,e1,e2,e3,e4⟩
 · exact VV hh
 · exact Vb ⟨gg,cap,cur,e1,e2,(hb.block gg (VL.1 e3).1).trans e3,e4⟩
theorem G5{w:ο}{base e g n cap r:Nat}{xs:List VN}(h:w.ownsRow base e 1 (σ (ς ⟨g,0,ν⟩) n cap) n xs)(hr:r<=n):w.ownsRow base e 1 (σ (ς ⟨g,0,ν⟩) r cap) r (xs.take r):=by
 obtain⟨hl,hh⟩:=h;refine⟨by simp;omega,?_⟩;rcases hh with ⟨hh,_⟩ | ⟨gg,cap',cur,e1,e2,e3,e4,e5,e6,e7⟩
 · simp at hh
 ·
  simp only [Value.slice.injEq,Option.some.injEq,Addr.mk.injEq,and_true,true_and] at e1
  obtain⟨rfl,rfl⟩:=e1;refine Vb ⟨g,cap,cur,rfl,e2,e3,by omega,e5,e6,?_⟩;rw [←e7,List.take_take,Nat.min_eq_left (by omega),Nat.mul_one]
theorem A3{w:ο}{B:Nat}{e:TypeId}{size g n cap:Nat}{xs:List VN}(h:w.ownsRow B e size (σ (ς ⟨g,0,ν⟩) n cap) n xs):B<=g:=
 (h.lt g rfl).1
theorem PZ{w:ο}{base e g n cap:Nat}{xs:List VN}(h:w.ownsRow base e 1 (σ (ς ⟨g,0,ν⟩) n cap) n xs):n<=cap/\cap<=maxLen:=by
 obtain⟨hl,hh⟩:=h;rcases hh with ⟨hh,_⟩ | ⟨gg,cap',cur,e1,e2,e3,e4,e5,e6,e7⟩
 · simp at hh
 ·
  simp only [Value.slice.injEq,Option.some.injEq,Addr.mk.injEq,and_true,true_and] at e1
  obtain⟨rfl,rfl⟩:=e1;exact⟨e4,e5⟩
theorem Bt(v:VN)(h:v.oneCell'=true):∀ u∈[v],u.oneCell'=true:=by
 intro u hu;simp at hu;subst hu;exact h
structure Bx3(B:Nat)(i:Itm)(w:ο):Prop where
 c0:w.cell? ⟨B,0,ν⟩=ς (ι κ i.o)
 c1:w.cell? ⟨B,1,ν⟩=ς (ι κ i.m)
 c2:w.cell? ⟨B,2,ν⟩=ς (τ i.s)
theorem Bx3.later{B:Nat}{i:Itm}{w w':ο}(h:Bx3 B i w)(hb:υ w.heap.size w w'):Bx3 B i w':=⟨AB hb h.c0,AB hb h.c1,AB hb h.c2⟩
theorem Bx3.drew{B:Nat}{i:Itm}{w:ο}(h:Bx3 B i w):Bx3 B i w.drew:=⟨h.c0,h.c1,h.c2⟩
theorem Bx3.grown{B:Nat}{i:Itm}{w w':ο}{r:Option Nat}(h:Bx3 B i w)(hg:w.grownBy w' r)(hr:ς B≠r):Bx3 B i w':=⟨hg.cell h.c0 hr,hg.cell h.c1 hr,hg.cell h.c2 hr⟩
theorem Tryz.infoN:(Tryz.prog.info? 143).map (λi=>(i.zero,i.size,i.bytes))=ς (ς .nilIface,1,16):=by kernel_rfl
theorem RQ{w:ο}{base e g n cap r:Nat}{L:List Tr}{a:Option Addr}(h:w.ownsRow base e 1 (σ (ς ⟨g,0,ν⟩) n cap) n (L.map Tr.val))(hn:L.length=n)(q:Nat)(hq:r+q=n)(ha:0<q->a=ς ⟨g,r,ν⟩):NL w a q (λj=>L.getD (r+j) (.num 0)):=λk hk=>by
 refine⟨g,r,ha (by omega),?_⟩;have:=h.cellAt (r+k) (by omega);rw [this];have hlt:r+k<L.length:=by omega
 have e:L.getD (r+k) (.num 0)=L[r+k]:=by simp [hlt]
 rw [List.getElem?_map,List.getElem?_eq_getElem hlt];show ς _=_
 dsimp only
 rw [e];rfl
theorem BO{w w':ο}(h:υ w.drew.heap.size w.drew w'):υ w.heap.size w w':=⟨h.os,h.tape,h.output,h.size,h.block⟩
theorem NL.drew{w:ο}{a:Option Addr}{n:Nat}{S:Nat->Tr}(h:NL w a n S):NL w.drew a n S:=h
theorem Ig(L:List Tr)(r q:Nat)(h:r+q=L.length):L.all Tr.ok=((L.take r).all Tr.ok && (List.range q).all λj=>(L.getD (r+j) (.num 0)).ok):=by
 have e:L=L.take r ++ L.drop r:=(List.take_append_drop r L).symm;have e2:(List.range q).map (λj=>L.getD (r+j) (.num 0))=L.drop r:=by
  apply List.ext_getElem
  · simp;omega
  ·
   intro i h1 h2;simp at h1
   simp
   rw [List.getElem?_eq_getElem (by omega)];rfl
 have e3:((List.range q).all λj=>(L.getD (r+j) (.num 0)).ok)=(L.drop r).all Tr.ok:=by
  rw [←e2,List.all_map];rfl
 rw [e3,←List.all_append,←e]
def M9(I:Nat->Itm):Nat->List Tr
 | 0=>[]
 | k+1=>(M9 I k).take ((M9 I k).length - (EC (I k).o (I k).m (I k).s).toNat) ++ [Ff (I k).o (I k).m (I k).s (λj=>(M9 I k).getD ((M9 I k).length - (EC (I k).o (I k).m (I k).s).toNat+j) (.num 0))]
theorem Jf{I:Nat->Itm}{k:Nat}{L:List Tr}{r q:Nat}{nd:Tr}(h:L=M9 I k)(hq:EC (I k).o (I k).m (I k).s=(q:Int))(hr:r+q=L.length)(hn:Ff (I k).o (I k).m (I k).s (λj=>L.getD (r+j) (.num 0))=nd):L.take r ++ [nd]=M9 I (k+1):=by
 subst h;rw [M9,hq];have e:(M9 I k).length - (q:Int).toNat=r:=by omega
 rw [e,←hn]
theorem TP(a:Option Addr)(n c:Nat)(I:Nat->Itm)(w:ο)(h:IL w a n I)(hn:n<=1048576):VK μ 107 #[σ a n c] w λe w'=>υ w.heap.size w w' /\
 ((e=ρ (θ #[.nilIface,β false])/\AZ I n=false)∨(∃ t:Tr,e=ρ (θ #[t.val,β true])/\t.fit/\AZ I n=t.ok/\M9 I n=[t])):=by
 have hb0:=VT w.heap.size w;obtain⟨i0,hi,hz0,hz1,hz2⟩:=info_parts Tryz.infoN;have HI:Hid (Tryz.prog.info? 143=ς i0):=hi;clear hi;go_enter Tryz.func107,Tryz.ntmps107
 go_wp2
 · exact VE (v:=θ #[.nilIface,β false]) (by simp [results,Tryz.results107,go_sem]) rfl ⟨hb0,VV ⟨rfl,Oa (by omega)⟩⟩
 have H100:Hid (n<=100):=(by omega:n<=100);go_loopw [4,15] (λv i wr=>∃ (k:Nat) (L:List Tr) (g cap:Nat),k<=n/\i=ι κ k/\v=σ (ς ⟨g,0,ν⟩) L.length cap/\wr.ownsRow w.heap.size 143 1 (σ (ς ⟨g,0,ν⟩) L.length cap) L.length (L.map Tr.val)/\sh I k=ς (L.length:Int)/\L.all Tr.ok=lf I k/\(∀ t∈L,t.fit)/\L.length<=k/\L=M9 I k/\υ w.heap.size w wr) (λ_ i _=>n - (VQ i).toNat)
 case atStart=>
  refine⟨0,[],w.heap.size,0,by omega,rfl,rfl,?_,rfl,rfl,by simp,by simp,rfl,AD _ _⟩;exact VU w #[] 0 (VD _) (by unfold maxLen;omega) rfl
 case round=>
  obtain⟨k,L,g,cap,hk,rfl,rfl,hO,hsh,hok,hfit,hLk,hstk,hb⟩:=hrel;have HSTK:Hid (L=M9 I k):=hstk;clear hstk;by_cases hlt:k<n
  ·
   obtain⟨b,off,rfl,c0,c1,c2,hs⟩:=h.later hb k hlt;have hst:sh I (k+1)=if 0<=EC (I k).o (I k).m (I k).s/\EC (I k).o (I k).m (I k).s<=L.length then ς (L.length+(1 - EC (I k).o (I k).m (I k).s)) else ν:=by rw [sh,hsh]
   have hgg:=A3 hO;have hgl:=(hO.lt g rfl).2;have hcp:=PZ hO;have hO1:=hO.alloc (γ #[ι κ (I k).o,ι κ (I k).m,τ (I k).s] 42);by_cases hq0:0<=EC (I k).o (I k).m (I k).s/\EC (I k).o (I k).m (I k).s<=L.length
   ·
    obtain⟨q,hq⟩:∃ q:Nat,EC (I k).o (I k).m (I k).s=q:=⟨(EC (I k).o (I k).m (I k).s).toNat,by omega⟩;obtain⟨r,hr⟩:∃ r:Nat,r+q=L.length:=⟨L.length - q,by omega⟩;rw [if_pos hq0,hq] at hst;have hLL:(L.length:Int)=(r:Int)+q:=by omega
    have d1:decide ((q:Int)<0)=false:=by simp
    have d2:decide ((L.length:Int)<(q:Int))=false:=by simp;omega
    have d3:wrap64 ((L.length:Int) - (q:Int))=(r:Int):=by unfold wrap64;have:=H100.out;omega
    go_wp2_with (go_at_call 133;refine(DL (I k).o (I k).m (I k).s _).mono ?_;rw [hq];rintro e w2 ⟨rfl,hb2⟩)
    have hX2:Bx3 wr.heap.size (I k) w2:=by
     obtain⟨x0,x1,x2⟩:=IZ hb2;exact⟨x0,x1,x2⟩
    have hO2:=AF hO1 hb2;have hbw2:=bj hb hb2;have hs2:=hb2.size;have hs2':(wr.alloc (γ #[ι κ (I k).o,ι κ (I k).m,τ (I k).s] 42)).heap.size=wr.heap.size+1:=by simp
    have i0r:(0:Int)<=(r:Int):=by omega
    have i1r:(r:Int)<=(cap:Int):=by omega
    have i2r:(r:Int)<=(L.length:Int):=by omega
    have i3r:r<=cap:=by omega
    have i4r:(L.length:Int)<=(cap:Int):=by omega
    clear hb2 hO1 hO c0 c1 c2 d1 d2 d3 hs2' hLL;by_cases hcr:cap=r
    ·
     subst hcr;refine VH (S:=Bx3 wr.heap.size (I k)) (by kernel_rfl) hX2.drew (λ_=>?_);refine tk 0 (v:=σ (ς ⟨g,0,ν⟩) L.length cap) hX2.drew ?_;simp only [zS]
     refine tk 1 (v:=ι κ (cap:Int)) hX2.drew ?_;simp only [zS]
     refine tk 2 (v:=σ (ς ⟨g,0,ν⟩) cap cap) hX2.drew ?_;simp only [zS]
     refine wpAnyH_take (i:=3) (oi:=Sg) (v:=χ #[ι κ (I k).o,ι κ (I k).m,τ (I k).s]) rfl (by kernel_rfl) (by kernel_rfl) (by kernel_rfl) (λ_ _ _ h=>h) (VV ⟨by rfl,λw jS=>by obtain⟨x0,x1,x2⟩:=jS;go_simp⟩) hX2.drew ?_;simp only [zS]
     refine tk 4 (v:=σ (ς ⟨g,0,ν⟩) L.length cap) hX2.drew ?_;simp only [zS]
     refine tk 5 (v:=ι κ (cap:Int)) hX2.drew ?_;simp only [zS]
     refine tk 6 (v:=σ (ς ⟨g,0,ν⟩) 0 0) hX2.drew ?_;simp only [zS]
     have hN:NL w2.drew (ς ⟨g,0,ν⟩) 0 (λj=>L.getD (cap+j) (.num 0)):=λk hk=>by omega
     have HM:=λcc=>Ib (I k).o (I k).m (I k).s _ 0 cc _ _ hN (by omega) (by omega);obtain⟨nd,hnd⟩:∃ t:Tr,(Ff (I k).o (I k).m (I k).s (λj=>L.getD (cap+j) (.num 0)))=t:=⟨_,rfl⟩;rw [hnd] at HM;have HND:Hid ((Ff (I k).o (I k).m (I k).s (λj=>L.getD (cap+j) (.num 0)))=nd):=hnd;clear hnd hN;refine rd 7 (λK hK=>?_);go_simp;refine(HM _).mono ?_;rintro e w3 ⟨rfl,hb3⟩;refine hK.out _ _ (hX2.drew.later hb3) (λ_=>?_);clear hK K;clear HM;have hO3:=AF (G5 hO2.drew (r:=cap) (by omega)) hb3;have hs3:=hb3.size;have hsb:=hbw2.size;have hAL:∀ o:Obj,(w3.alloc o).heap.size=w3.heap.size+1:=λo=>by simp
     have hs3d:w2.drew.heap.size=w2.heap.size:=rfl;refine rd 8 (λK hK=>?_);go_simp;refine hK.out _ _ ((hX2.drew.later hb3).later (AD _ _)) (λ_=>?_);clear hK K;refine rd 9 (λK hK=>?_);rw [if_pos (by kernel_rfl)];refine wp_append_lies _ _ _ _ rfl w.heap.size 143 i0 .nilIface 1 16 Tryz.underlying168 HI.out hz0 hz1 hz2 rfl (by omega) (σ (ς ⟨g,0,ν⟩) cap cap) cap _ rfl (hO3.alloc _) ⟨w3.heap.size,0,ν⟩ 1 1 [.iface nd.ty nd.pay] rfl rfl (VI (η w3 _)) (Bt _ rfl) (by omega) (by have:=H100.out;unfold maxLen;omega) (by have:=H100.out;omega) (by simp;omega) _ rfl ?_;intro g4 cap4 w4 hO4 hgr4 hat4 hlt4;refine hK.out _ _ (((hX2.drew.later hb3).later (AD _ _)).grown hgr4 (by show ς _≠ς g;simp;omega)) (λ_=>?_);clear hK K;simp only [zS]
     refine rd 10 (λK hK=>?_);go_simp;refine hK.out _ _ (((hX2.drew.later hb3).later (AD _ _)).grown hgr4 (by show ς _≠ς g;simp;omega)) (λ_=>?_);clear hK K;refine VP (by kernel_rfl) ?_ _;have Q1:(L.take cap ++ [nd]).length=cap+1:=by simp;omega
     have Q2:w4.ownsRow w.heap.size 143 1 (σ (ς ⟨g4,0,ν⟩) (cap+1) cap4) (cap+1) ((L.take cap ++ [nd]).map Tr.val):=by
      rw [List.map_append,List.map_take];exact hO4
     have Q3:sh I (k+1)=ς ((L.take cap ++ [nd]).length:Int):=by rw [hst,Q1];congr 1;omega
     have Q4:(L.take cap ++ [nd]).all Tr.ok=lf I (k+1):=by
      have e1:=Nz (I k) (λj=>L.getD (cap+j) (.num 0)) q hq;rw [HND.out] at e1;rw [List.all_append,lf,←hok,Ig L cap q hr];simp only [List.all_cons,List.all_nil,Bool.and_true,e1]
      rcases Di (I k) <;> simp
     have Q5:∀ t∈L.take cap ++ [nd],t.fit:=by
      intro t ht;rcases List.mem_append.1 ht with ht | ht
      · exact hfit t (List.mem_of_mem_take ht)
      ·
       obtain rfl:=List.mem_singleton.1 ht;rw [←HND.out];refine Lm (I k) _ q hq hs λj hj=>?_;have hjl:cap+j<L.length:=by omega
       have e2:L.getD (cap+j) (.num 0)=L[cap+j]:=by simp [hjl]
       show (L.getD (cap+j) (.num 0)).fit
       rw [e2];exact hfit _ (List.getElem_mem _)
     have Q6:υ w.heap.size w w4:=by
      have x1:υ w.heap.size w w3:=hbw2.trans ((BO hb3).mono hbw2.size);exact(x1.alloc x1.size _).grown hgr4 (by rw [hAL];omega) (λj hj=>by have e:g=j:=VF hj;omega)
     clear hO4 hgr4 hat4 hO3 hO2 hX2 hb3 hst hok hfit hsh;go_wp2;go_roundw
     case rel=>exact⟨k+1,L.take cap ++ [nd],g4,cap4,by omega,by go_num,by rw [Q1],by rw [Q1];exact Q2,Q3,Q4,Q5,by rw [Q1];omega,Jf HSTK.out hq hr HND.out,Q6⟩
     case measure=>simp [VQ];omega
    ·
     have hcr':¬(r=cap):=λe=>hcr e.symm;refine VH (S:=Bx3 wr.heap.size (I k)) (by kernel_rfl) hX2.drew (λ_=>?_);refine tk 0 (v:=σ (ς ⟨g,0,ν⟩) L.length cap) hX2.drew ?_;simp only [zS]
     refine tk 1 (v:=ι κ (r:Int)) hX2.drew ?_;simp only [zS]
     refine tk 2 (v:=σ (ς ⟨g,0,ν⟩) r cap) hX2.drew ?_;simp only [zS]
     refine wpAnyH_take (i:=3) (oi:=Sg) (v:=χ #[ι κ (I k).o,ι κ (I k).m,τ (I k).s]) rfl (by kernel_rfl) (by kernel_rfl) (by kernel_rfl) (λ_ _ _ h=>h) (VV ⟨by rfl,λw jS=>by obtain⟨x0,x1,x2⟩:=jS;go_simp⟩) hX2.drew ?_;simp only [zS]
     refine tk 4 (v:=σ (ς ⟨g,0,ν⟩) L.length cap) hX2.drew ?_;simp only [zS]
     refine tk 5 (v:=ι κ (r:Int)) hX2.drew ?_;simp only [zS]
     refine tk 6 (v:=σ (ς ⟨g,r,ν⟩) (L.length - r) (cap - r)) hX2.drew ?_;simp only [zS]
     have hN:=(RQ (a:=ς ⟨g,r,ν⟩) (r:=r) hO2 rfl (L.length - r) (by omega) (λ_=>rfl)).drew;have HM:=λcc=>Ib (I k).o (I k).m (I k).s _ (L.length - r) cc _ _ hN (by omega) (by omega);obtain⟨nd,hnd⟩:∃ t:Tr,(Ff (I k).o (I k).m (I k).s (λj=>L.getD (r+j) (.num 0)))=t:=⟨_,rfl⟩;rw [hnd] at HM;have HND:Hid ((Ff (I k).o (I k).m (I k).s (λj=>L.getD (r+j) (.num 0)))=nd):=hnd;clear hnd hN;refine rd 7 (λK hK=>?_);go_simp;refine(HM _).mono ?_;rintro e w3 ⟨rfl,hb3⟩;refine hK.out _ _ (hX2.drew.later hb3) (λ_=>?_);clear hK K;clear HM;have hO3:=AF (G5 hO2.drew (r:=r) (by omega)) hb3;have hs3:=hb3.size;have hsb:=hbw2.size;have hAL:∀ o:Obj,(w3.alloc o).heap.size=w3.heap.size+1:=λo=>by simp
     have hs3d:w2.drew.heap.size=w2.heap.size:=rfl;refine rd 8 (λK hK=>?_);go_simp;refine hK.out _ _ ((hX2.drew.later hb3).later (AD _ _)) (λ_=>?_);clear hK K;refine rd 9 (λK hK=>?_);rw [if_pos (by kernel_rfl)];refine wp_append_lies _ _ _ _ rfl w.heap.size 143 i0 .nilIface 1 16 Tryz.underlying168 HI.out hz0 hz1 hz2 rfl (by omega) (σ (ς ⟨g,0,ν⟩) r cap) r _ rfl (hO3.alloc _) ⟨w3.heap.size,0,ν⟩ 1 1 [.iface nd.ty nd.pay] rfl rfl (VI (η w3 _)) (Bt _ rfl) (by omega) (by have:=H100.out;unfold maxLen;omega) (by have:=H100.out;omega) (by simp;omega) _ rfl ?_;intro g4 cap4 w4 hO4 hgr4 hat4 hlt4;refine hK.out _ _ (((hX2.drew.later hb3).later (AD _ _)).grown hgr4 (by show ς _≠ς g;simp;omega)) (λ_=>?_);clear hK K;simp only [zS]
     refine rd 10 (λK hK=>?_);go_simp;refine hK.out _ _ (((hX2.drew.later hb3).later (AD _ _)).grown hgr4 (by show ς _≠ς g;simp;omega)) (λ_=>?_);clear hK K;refine VP (by kernel_rfl) ?_ _;have Q1:(L.take r ++ [nd]).length=r+1:=by simp;omega
     have Q2:w4.ownsRow w.heap.size 143 1 (σ (ς ⟨g4,0,ν⟩) (r+1) cap4) (r+1) ((L.take r ++ [nd]).map Tr.val):=by
      rw [List.map_append,List.map_take];exact hO4
     have Q3:sh I (k+1)=ς ((L.take r ++ [nd]).length:Int):=by rw [hst,Q1];congr 1;omega
     have Q4:(L.take r ++ [nd]).all Tr.ok=lf I (k+1):=by
      have e1:=Nz (I k) (λj=>L.getD (r+j) (.num 0)) q hq;rw [HND.out] at e1;rw [List.all_append,lf,←hok,Ig L r q hr];simp only [List.all_cons,List.all_nil,Bool.and_true,e1]
      rcases Di (I k) <;> simp
     have Q5:∀ t∈L.take r ++ [nd],t.fit:=by
      intro t ht;rcases List.mem_append.1 ht with ht | ht
      · exact hfit t (List.mem_of_mem_take ht)
      ·
       obtain rfl:=List.mem_singleton.1 ht;rw [←HND.out];refine Lm (I k) _ q hq hs λj hj=>?_;have hjl:r+j<L.length:=by omega
       have e2:L.getD (r+j) (.num 0)=L[r+j]:=by simp [hjl]
       show (L.getD (r+j) (.num 0)).fit
       rw [e2];exact hfit _ (List.getElem_mem _)
     have Q6:υ w.heap.size w w4:=by
      have x1:υ w.heap.size w w3:=hbw2.trans ((BO hb3).mono hbw2.size);exact(x1.alloc x1.size _).grown hgr4 (by rw [hAL];omega) (λj hj=>by have e:g=j:=VF hj;omega)
     clear hO4 hgr4 hat4 hO3 hO2 hX2 hb3 hst hok hfit hsh;go_wp2;go_roundw
     case rel=>exact⟨k+1,L.take r ++ [nd],g4,cap4,by omega,by go_num,by rw [Q1],by rw [Q1];exact Q2,Q3,Q4,Q5,by rw [Q1];omega,Jf HSTK.out hq hr HND.out,Q6⟩
     case measure=>simp [VQ];omega
   ·
    rw [if_neg hq0] at hst;have hno:Hid (AZ I n=false):=OZ (by rw [PM hst n (by omega)];simp);go_wp2_with (go_at_call 133;refine(DL (I k).o (I k).m (I k).s _).mono ?_;rintro e w2 ⟨rfl,hb2⟩)
    all_goals first
     | exact VE (v:=θ #[.nilIface,β false]) (by simp [results,Tryz.results107,go_sem]) rfl ⟨bj hb hb2,VV ⟨rfl,hno.out⟩⟩
     | (exfalso;omega)
  ·
   obtain rfl:k=n:=by omega
   by_cases h1:L.length=1
   · obtain⟨t,rfl⟩:=List.length_eq_one_iff.1 h1;have hc:=hO.cellAt 0 (by simp);have hc':wr.cell? ⟨g,0,ν⟩=ς (.iface t.ty t.pay):=hc;have hyes:Hid (AZ I k=t.ok):=(P8 hsh H100.out).trans (by rw [←hok];simp);have hft:=hfit t (by simp);have HS1:Hid (M9 I k=[t]):=HSTK.out.symm;clear hO hc hok hsh;go_wp2;exact VE (v:=θ #[t.val,β true]) (by simp [results,Tryz.results107,go_sem,Tr.val]) rfl ⟨hb,Vb ⟨t,rfl,hft,hyes.out,HS1.out⟩⟩
   ·
    have hno:Hid (AZ I k=false):=OZ (by rw [hsh];simp;omega);have d1:((L.length:Int) != 1)=true:=by simp;omega
    go_wp2;exact VE (v:=θ #[.nilIface,β false]) (by simp [results,Tryz.results107,go_sem]) rfl ⟨hb,VV ⟨rfl,hno.out⟩⟩
set_option maxHeartbeats 2000000
theorem OI(b:Nat)(a:Option Addr)(n c:Nat)(I:Nat->Itm)(w:ο)(hK:KwAt w b)(h:IL w a n I)(hn:n<=1048576):VK μ 68 #[.map (ς b),σ a n c] w λe w'=>e=ρ (β (AZ I n))/\υ w.heap.size w w':=by
 go_enter Tryz.func68,Tryz.ntmps68
 go_upto_region 2 with (go_at_call 107;refine(TP a n c I _ h hn).mono ?_;rintro e w1 ⟨hb1,⟨rfl,hno⟩ | ⟨t,rfl,hft,hyes,-⟩⟩)
 ·
  go_wp2;go_ret
  exact⟨AN (by simp [hno]),hb1⟩
 ·
  have hm:=hft.1;have he:=hft.2.1;unfold Tr.val;go_wp2_with (refine(OW b t _ hft (hK.later hb1)).mono ?_;rintro e w2 ⟨rfl,hb2⟩)
  go_ret
  exact⟨AN (by simp [hyes]),AA hb1 hb2⟩
theorem AaD(b:Nat)(a:Option Addr)(n c:Nat)(I:Nat->Itm)(w:ο)(hK:KwAt w b)(h:IL w a n I)(hn:n<=1048576):VK μ 69 #[.map (ς b),σ a n c] w λe w'=>e=ρ (β (AI I n))/\υ w.heap.size w w':=by
 have hb0:=VT w.heap.size w;go_enter Tryz.func69,Tryz.ntmps69
 by_cases h0:n=0
 ·
  subst h0;go_wp2;go_ret
  exact⟨AN (by simp [AI]),hb0⟩
 ·
  have h0':((n:Int) == 0)=false:=by simp;omega
  go_wp2_with (go_at_call 68;refine(OI b a n c I _ hK h hn).mono ?_;rintro e w1 ⟨rfl,hb1⟩)
  go_ret
  exact⟨AN (by simp [AI,h0]),hb1⟩
structure Clm where
 s:ByteArray
 t:Int
def CL(w:ο)(a:Option Addr)(n:Nat)(C:Nat->Clm):Prop:=
 ∀ k,k<n->∃ b off,a=ς ⟨b,off,ν⟩/\w.cell? ⟨b,off+k * 2,ν⟩=ς (τ (C k).s)/\w.cell? ⟨b,off+k * 2+1,ν⟩=ς (ι κ (C k).t)/\(C k).s.size<=1048576
theorem CL.later{w w':ο}{a:Option Addr}{n:Nat}{C:Nat->Clm}(h:CL w a n C)(hb:υ w.heap.size w w'):CL w' a n C:=λk hk=>by
 obtain⟨b,off,e,h0,h1,hs⟩:=h k hk;exact⟨b,off,e,AB hb h0,AB hb h1,hs⟩
def OL(w:ο)(a:Option Addr)(n:Nat)(m:Nat->Nat)(O:Nat->Nat->Itm):Prop:=
 ∀ k,k<n->∃ b off i c,a=ς ⟨b,off,ν⟩/\w.cell? ⟨b,off+k,ν⟩=ς (σ i (m k) c)/\IL w i (m k) (O k)/\m k<=1048576
theorem OL.later{w w':ο}{a:Option Addr}{n:Nat}{m:Nat->Nat}{O:Nat->Nat->Itm}(h:OL w a n m O)(hb:υ w.heap.size w w'):OL w' a n m O:=λk hk=>by
 obtain⟨b,off,i,c,e,h0,hi,hm⟩:=h k hk;exact⟨b,off,i,c,e,AB hb h0,hi.later hb,hm⟩
structure St where
 k:Int
 tb:ByteArray
 n2:Nat
 C:Nat->Clm
 n3:Nat
 V:Nat->Itm
 col:ByteArray
 n5:Nat
 E:Nat->Itm
 n6:Nat
 W:Nat->Itm
 n7:Nat
 m7:Nat->Nat
 O:Nat->Nat->Itm
structure Sa where
 a2:Option Addr
 c2:Nat
 a3:Option Addr
 c3:Nat
 a5:Option Addr
 c5:Nat
 a6:Option Addr
 c6:Nat
 a7:Option Addr
 c7:Nat
abbrev GC(d:St)(p:Sa):Array VN:=#[ι κ d.k,τ d.tb,σ p.a2 d.n2 p.c2,σ p.a3 d.n3 p.c3,τ d.col,σ p.a5 d.n5 p.c5,σ p.a6 d.n6 p.c6,σ p.a7 d.n7 p.c7]
structure SM(w:ο)(d:St)(p:Sa):Prop where
 tb:d.tb.size<=1048576
 col:d.col.size<=1048576
 co:CL w p.a2 d.n2 d.C
 va:IL w p.a3 d.n3 d.V
 ex:IL w p.a5 d.n5 d.E
 wh:IL w p.a6 d.n6 d.W
 ou:OL w p.a7 d.n7 d.m7 d.O
 l2:d.n2<=1048576
 l3:d.n3<=1048576
 l5:d.n5<=1048576
 l6:d.n6<=1048576
 l7:d.n7<=1048576
theorem SM.later{w w':ο}{d:St}{p:Sa}(h:SM w d p)(hb:υ w.heap.size w w'):SM w' d p:=
 ⟨h.tb,h.col,h.co.later hb,h.va.later hb,h.ex.later hb,h.wh.later hb,h.ou.later hb,h.l2,h.l3,h.l5,h.l6,h.l7⟩
structure B8(w:ο)(g:Nat)(d:St)(p:Sa):Prop where
 c0:w.cell? ⟨g,0,ν⟩=ς (ι κ d.k)
 c1:w.cell? ⟨g,1,ν⟩=ς (τ d.tb)
 c2:w.cell? ⟨g,2,ν⟩=ς (σ p.a2 d.n2 p.c2)
 c3:w.cell? ⟨g,3,ν⟩=ς (σ p.a3 d.n3 p.c3)
 c4:w.cell? ⟨g,4,ν⟩=ς (τ d.col)
 c5:w.cell? ⟨g,5,ν⟩=ς (σ p.a5 d.n5 p.c5)
 c6:w.cell? ⟨g,6,ν⟩=ς (σ p.a6 d.n6 p.c6)
 c7:w.cell? ⟨g,7,ν⟩=ς (σ p.a7 d.n7 p.c7)
theorem B8.new(w:ο)(d:St)(p:Sa)(t:TypeId):B8 (w.alloc (γ (GC d p) t)) w.heap.size d p:=
 ⟨(ε _ _ 0 _ _ _ (η w _)).trans rfl,(ε _ _ 1 _ _ _ (η w _)).trans rfl,(ε _ _ 2 _ _ _ (η w _)).trans rfl,(ε _ _ 3 _ _ _ (η w _)).trans rfl,(ε _ _ 4 _ _ _ (η w _)).trans rfl,(ε _ _ 5 _ _ _ (η w _)).trans rfl,(ε _ _ 6 _ _ _ (η w _)).trans rfl,(ε _ _ 7 _ _ _ (η w _)).trans rfl⟩
theorem B8.later{w w':ο}{g:Nat}{d:St}{p:Sa}(h:B8 w g d p)(hb:υ w.heap.size w w'):B8 w' g d p:=
 ⟨AB hb h.c0,AB hb h.c1,AB hb h.c2,AB hb h.c3,AB hb h.c4,AB hb h.c5,AB hb h.c6,AB hb h.c7⟩
def allN(n:Nat)(p:Nat->Bool):Bool:=(List.range n).all p
theorem Ak{n:Nat}{p:Nat->Bool}(h:∀ j,j<n->p j=true):allN n p=true:=by
 unfold allN;rw [List.all_eq_true];exact λj hj=>h j (List.mem_range.1 hj)
theorem Am{n j:Nat}{p:Nat->Bool}(hj:j<n)(h:p j=false):allN n p=false:=by
 unfold allN;rw [List.all_eq_false];exact⟨j,List.mem_range.2 hj,by simp [h]⟩
theorem EW{n j:Nat}{p:Nat->Bool}(hj:j<n)(h:p j=false∨20<n):(Bn n 1 20 && allN n p)=false:=by
 rcases h with h | h
 · rw [Am hj h];simp
 ·
  simp [Bn]
  intros
  omega
theorem Gp{n:Nat}{p:Nat->Bool}(h:∀ j,j<n->p j=true)(hm:0<n->n<=20):(Bn n 1 20 && allN n p)=decide (0<n):=by
 rw [Ak h,Bool.eq_iff_iff];simp [Bn]
 omega
theorem MJ{a b:Bool}(h:a=false):(a && b)=false:=by rw [h];rfl
def GD(d:St):Bool:=(d.k != 1 && (d.n2:Int) != 0) || (d.k != 2 && (d.n3:Int) != 0) || (d.k != 3 && (!decide (d.col.size=0) || (d.n5:Int) != 0)) || (d.k != 5 && (d.n7:Int) != 0)
def BR(d:St):Bool:=
 if d.k=1 then Bn d.n2 1 20 && allN d.n2 (λj=>BI (d.C j).s (d.C j).t)
 else if d.k=2 then Bn d.n3 1 20 && allN d.n3 (λj=>Aa (d.V j).o (d.V j).m (d.V j).s)
 else if d.k=3 then AM d.col && AZ d.E d.n5 && AI d.W d.n6
 else if d.k=4 then AI d.W d.n6
 else if d.k=5 then Bn d.n7 1 20 && allN d.n7 (λj=>AZ (d.O j) (d.m7 j)) && AI d.W d.n6
 else false
def AK(d:St):Bool:=AM d.tb && !GD d && !(decide (d.k<3) && (d.n6:Int) != 0) && BR d
theorem Ay(w:ο)(a b c:Obj):υ w.heap.size w (((w.alloc a).alloc b).alloc c):=AA (AD w a) (AA (AD _ b) (AD _ c))
theorem Ej{t e:TypeId}{z:VN}{size bytes:Nat}(ht:Tryz.prog.underlying t=ς (.slice e))(hinfo:(Tryz.prog.info? e).map (λi=>(i.zero,i.size,i.bytes))=ς (ς z,size,bytes))(n:Nat)(hn:n<=1048576)(hb:bytes<=1000)(w:ο) :
 (Instr.makeSlice t (ι κ (n:Int)) (ι κ (n:Int))).run μ w=.ok (σ (ς ⟨w.heap.size,0,ν⟩) n n) (w.alloc (γ (madeCells z.cells (n * size)) e)):=by
 obtain⟨i,hi,hzz⟩:=Option.map_eq_some_iff.1 hinfo;simp only [Prod.mk.injEq] at hzz
 obtain⟨hz,hs,hbb⟩:=hzz;have h1:((i.bytes:Int) * (n:Int))<=281474976710656:=by
  rw [hbb];have:bytes * n<=1000 * 1048576:=Nat.mul_le_mul hb hn;have h2:((bytes:Int) * (n:Int))=((bytes * n:Nat):Int):=by simp
  omega
 have:=run_make (P:=μ) w t e i z ht hi hz κ κ n n (by omega) (by omega) h1 (by omega);rw [hs] at this;simpa using this
theorem CH(z:Array VN)(n:Nat):(madeCells z n).size=n:=by simp [size_madeCells]
theorem NM{A:Array VN}{k:Nat}(h:k<A.size):∃ v,A[k]?=ς v:=⟨A[k],by simp [h]⟩
theorem CG(s:ByteArray):(s.toList == s.toList)=true:=by simp
theorem Tryz.infoCol:(Tryz.prog.info? 58).map (λi=>(i.zero,i.size,i.bytes))=ς (ς (χ #[τ VG,ι κ 0]),2,24):=by kernel_rfl
theorem Tryz.infoVal:(Tryz.prog.info? 60).map (λi=>(i.zero,i.size,i.bytes))=ς (ς (χ #[ι κ 0,ι κ 0,τ VG]),3,32):=by kernel_rfl
theorem Tryz.infoItm:(Tryz.prog.info? 42).map (λi=>(i.zero,i.size,i.bytes))=ς (ς (χ #[ι κ 0,ι κ 0,τ VG]),3,32):=by kernel_rfl
theorem IL.drew{w:ο}{a:Option Addr}{n:Nat}{I:Nat->Itm}(h:IL w a n I):IL w.drew a n I:=h
theorem AC{w w':ο}{B:Nat}{o:Obj}(h:w.heap[B]?=ς o)(hb:υ w.heap.size w w'):w'.heap[B]?=ς o:=(hb.block B (VL.1 h).1).trans h
theorem Af{w:ο}{B B' i:Nat}{o:Obj}{v:VN}(h:w.heap[B']?=ς o)(hne:B'≠B):(w.setCell ⟨B,i,ν⟩ v).heap[B']?=ς o:=(heap_setCell_other _ _ _ _ hne).trans h
theorem Bg{w V:ο}{B i:Nat}{v:VN}(hb:υ w.heap.size w V)(hB:w.heap.size<=B):υ w.heap.size w (V.setCell ⟨B,i,ν⟩ v):=hb.setCell hB _
theorem Tryz.infoRow:(Tryz.prog.info? 30).map (λi=>(i.zero,i.size,i.bytes))=ς (ς (σ ν 0 0),1,24):=by kernel_rfl
structure Td where
 s:ByteArray
 n:Nat
 C:Nat->Clm
 r:Nat
 m:Nat->Nat
 R:Nat->Nat->Itm
structure Sm3(d:Td):Prop where
 s:d.s.size<=1048576
 co:d.n<=1048576/\∀ k,k<d.n->(d.C k).s.size<=1048576
 ro:d.r<=1048576/\∀ k,k<d.r->d.m k<=1048576/\∀ j,j<d.m k->(d.R k j).s.size<=1048576
def TL(w:ο)(a:Option Addr)(n:Nat)(T:Nat->Td):Prop:=
 ∀ k,k<n->∃ b off ac cc ar cr,a=ς ⟨b,off,ν⟩/\w.cell? ⟨b,off+k * 3,ν⟩=ς (τ (T k).s)/\w.cell? ⟨b,off+k * 3+1,ν⟩=ς (σ ac (T k).n cc)/\w.cell? ⟨b,off+k * 3+2,ν⟩=ς (σ ar (T k).r cr)/\CL w ac (T k).n (T k).C/\OL w ar (T k).r (T k).m (T k).R/\Sm3 (T k)
theorem TL.later{w w':ο}{a:Option Addr}{n:Nat}{T:Nat->Td}(h:TL w a n T)(hb:υ w.heap.size w w'):TL w' a n T:=λk hk=>by
 obtain⟨b,off,ac,cc,ar,cr,e,h0,h1,h2,hC,hO,hs⟩:=h k hk;exact⟨b,off,ac,cc,ar,cr,e,AB hb h0,AB hb h1,AB hb h2,hC.later hb,hO.later hb,hs⟩
theorem Tryz.infoTab:(Tryz.prog.info? 67).map (λi=>(i.zero,i.size,i.bytes))=ς (ς (χ #[τ VG,σ ν 0 0,σ ν 0 0]),3,64):=by kernel_rfl
def TC(w:ο)(g n:Nat)(T:Nat->Td):Prop:=
 ∀ k,k<n->∃ g1 cc ar cr,w.cell? ⟨g,k * 3,ν⟩=ς (τ (T k).s)/\w.cell? ⟨g,k * 3+1,ν⟩=ς (σ (ς ⟨g1,0,ν⟩) (T k).n cc)/\w.cell? ⟨g,k * 3+2,ν⟩=ς (σ ar (T k).r cr)/\(T k).n<=cc/\CL w (ς ⟨g1,0,ν⟩) (T k).n (T k).C/\OL w ar (T k).r (T k).m (T k).R/\Sm3 (T k)
theorem TC.later{w w':ο}{g n:Nat}{T:Nat->Td}(h:TC w g n T)(hb:υ w.heap.size w w'):TC w' g n T:=λk hk=>by
 obtain⟨g1,cc,ar,cr,h0,h1,h2,hc,hC,hO,hs⟩:=h k hk;exact⟨g1,cc,ar,cr,AB hb h0,AB hb h1,AB hb h2,hc,hC.later hb,hO.later hb,hs⟩
theorem TC.tl{w:ο}{g n:Nat}{T:Nat->Td}(h:TC w g n T):TL w (ς ⟨g,0,ν⟩) n T:=λj hj=>by
 obtain⟨g1,cc,ar,cr,c0,c1,c2,-,hC,hO,hs⟩:=h j hj;exact⟨g,0,_,_,_,_,rfl,by rw [VM];exact c0,by rw [VM];exact c1,by rw [VM];exact c2,hC,hO,hs⟩
