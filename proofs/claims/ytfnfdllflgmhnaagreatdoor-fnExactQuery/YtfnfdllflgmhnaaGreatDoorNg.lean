import Derived.Test.YtfnfdllflgmhnaaGreatDoorProg
import Derived.Deep.RegionHeld3
import Derived.WalkKit
import Derived.ProofKit
import Derived.Laws.CopyOwn
import Derived.Deep.QuietTactic
import Derived.BigQuiet
import Derived.Maps.OwnSet
import Derived.Lib.Fields
import Derived.Test.YtfnfdllflgmhnaaGreatDoorShelf
open ByteArray renaming empty → XN
open Go renaming Calls → XR, Value → XU, World → ο, cell_of_row → ε, heap_alloc_new → η
open Go.Ending renaming returned → ρ
open Go.IntKind renaming i64 → κ
open Go.Obj renaming cells → γ
open Go.Proofs.Tryz renaming prog → μ
open Go.RowKit renaming intOf → XX, Below → υ
open Go.RowKit.Below renaming refl → Xa
open Go.Value renaming bool → β, int → ι, string → τ, slice → σ, agg → χ
open Nat renaming le_refl → XK, zero_add → XT
open Option renaming none → ν, some → ς
open Or renaming inl → Xc, inr → Xi
namespace Go.Proofs.YtfnfdllflgmhnaaGreatDoor
open Go.RowKit
set_option maxRecDepth 20000
set_option maxHeartbeats 2000000
theorem zS:(∀ (a:Act) (t:Tmp) (v:XU),a.put (ς t) v={ a with tmps:=a.tmps.setIfInBounds t v })/\(∀ (a:Act) (v:XU),a.put ν v=a)/\(∀ (α:Type) (l:List α) (i:Nat) (x:α),l.toArray.setIfInBounds i x=(l.set i x).toArray)/\(∀ (α:Type) (y x:α) (l:List α),(y :: l).set 0 x=x :: l)/\∀ (α:Type) (y x:α) (l:List α) (n:Nat),(y :: l).set (n+1) x=y :: l.set n x:=
 ⟨λ_ _ _=>rfl,λ_ _=>rfl,λ_ _ _ _=>List.setIfInBounds_toArray ..,λ_ _ _ _=>rfl,λ_ _ _ _ _=>rfl⟩
theorem tk{P:Program}{ops:Array Oper}{Q:Exit->Act->ο->Prop}{md:Region.Mode}{S:ο->Prop}(i:Nat)(oi:Oper){v:XU}{fuel:Nat}{listed:Array Bool}{a:Act}{w:ο}
 (hy:∀ w,S w->(execOp a.eval oi).run P w=.ok (.value v) w) (hS:S w) (h:wpAnyH P md ops Q S fuel (listed.setIfInBounds i true) (a.put oi.dst v) w)
 (hi:ops[i]?=ς oi:=by rfl) (hw:Region.wanted oi (yielded ops a.tmps)=true:=by rfl)
 (hs:Region.noSelect ops=true:=by kernel_rfl) (hf:Region.free md ops listed i=true:=by kernel_rfl) (hr:(Region.ready md ops listed).contains i=true:=by kernel_rfl)
 (hQ:∀ c a w,Q (.panic c) (a.put oi.dst v) w->Q (.panic c) a w:=by exact λ_ _ _ h=>h):wpAnyH P md ops Q S (fuel+1) listed a w:=
 wpAnyH_take hi hs hf hr hQ (Xc ⟨hw,hy⟩) hS h
theorem Ao{P:Program}{ops:Array Oper}{Q:Exit->Act->ο->Prop}{md:Region.Mode}{S:ο->Prop}(i:Nat)(oi:Oper){fuel:Nat}{listed:Array Bool}{a:Act}{w:ο}
 (hS:S w) (h:wpAnyH P md ops Q S fuel (listed.setIfInBounds i true) (a.put oi.dst undef) w)
 (hi:ops[i]?=ς oi:=by rfl) (hw:Region.wanted oi (yielded ops a.tmps)=false:=by rfl)
 (hs:Region.noSelect ops=true:=by kernel_rfl) (hf:Region.free md ops listed i=true:=by kernel_rfl) (hr:(Region.ready md ops listed).contains i=true:=by kernel_rfl)
 (hQ:∀ c a w,Q (.panic c) (a.put oi.dst undef) w->Q (.panic c) a w:=by exact λ_ _ _ h=>h):wpAnyH P md ops Q S (fuel+1) listed a w:=
 wpAnyH_take hi hs hf hr hQ (Xi ⟨hw,rfl⟩) hS h
theorem rd{P:Program}{ops:Array Oper}{Q:Exit->Act->ο->Prop}{md:Region.Mode}{S:ο->Prop}(i:Nat)(o:Oper){fuel:Nat}{listed:Array Bool}{a:Act}{w:ο}
 (h:∀ K':Act->ο->Prop,Shut (∀ a w,S w->(S w->wpAnyH P md ops Q S fuel (listed.setIfInBounds i true) a w)->K' a w)->if Region.wanted o (yielded ops a.tmps)=true then Oper.wp P o a w K' Q else K' (a.put o.dst undef) w)
 (ho:ops[i]?=ς o:=by rfl) (hr:Region.ready md ops listed=[i]:=by kernel_rfl):wpAnyH P md ops Q S (fuel+1) listed a w:=wpAnyH_ready hr (by simp) (AllReadyH.cons ho h AllReadyH.nil)
theorem W7{P:Program}{ops:Array Oper}{Q:Exit->Act->ο->Prop}{md:Region.Mode}{S:ο->Prop}{i:Nat}{oi:Oper}{v:XU}{fuel:Nat}{listed:Array Bool}{a:Act}{w:ο}(hi:ops[i]?=ς oi)
 (hy:Region.wanted oi (yielded ops a.tmps)=true/\∀ w,S w->(execOp a.eval oi).run P w=.ok (.value v) w) (hS:S w)
 (h:wpAnyH P md ops Q S fuel (listed.setIfInBounds i true) (a.put oi.dst v) w)
 (hs:Region.noSelect ops=true:=by kernel_rfl) (hf:Region.free md ops listed i=true:=by kernel_rfl) (hr:(Region.ready md ops listed).contains i=true:=by kernel_rfl)
 (hQ:∀ c a w,Q (.panic c) (a.put oi.dst v) w->Q (.panic c) a w:=by exact λ_ _ _ h=>h):wpAnyH P md ops Q S (fuel+1) listed a w:=
 wpAnyH_take hi hs hf hr hQ (Xc hy) hS h
theorem AM{b b':Bool}(h:b=b'):ρ (β b)=ρ (β b'):=by rw [h]
def EH(c:Int):Bool:=decide (97<=c) && decide (c<=122)
def Ic(c:Int):Bool:=decide (48<=c) && decide (c<=57)
def C3(c:Int):Bool:=EH c || Ic c || c == 95
def Bb(x lo hi:Int):Bool:=decide (lo<=x) && decide (x<=hi)
def C2(n:Int):Bool:=n != -9223372036854775808
def DR(n:Int):Bool:=n == 1 || n == 2
def Aj(n:Int):Int:=if n<=3 then 0 else if n=11∨n=13 then 1 else 2
def Hs(p:Int->Bool)(s:ByteArray):Bool:=s.data.toList.all λc=>p c.toNat
theorem D7{p:Int->Bool}{s:ByteArray}(h:∀ j (hj:j<s.size),p s[j].toNat=true):Hs p s=true:=by
 unfold Hs;rw [List.all_eq_true];intro c hc;obtain⟨j,hj,rfl⟩:=List.getElem_of_mem hc;exact h j (by simpa using hj)
theorem Db{p:Int->Bool}{s:ByteArray}{j:Nat}(hj:j<s.size)(h:p s[j].toNat=false):Hs p s=false:=by
 unfold Hs;rw [List.all_eq_false];exact⟨s[j],List.getElem_mem (l:=s.data.toList) (n:=j) (by simpa using hj),by simp [h]⟩
def EG(c:Int):Bool:=Bb c 32 126
def BD(s:ByteArray):Bool:=decide ((s.size:Int)<=200) && Hs EG s
theorem JZ(c:Int)(w:ο):XR μ 172 #[ι .u8 c] w λe w'=>e=ρ (β (EH c))/\w'=w:=by
 go_enter Tryz.func172,Tryz.ntmps172
 go_wp2;all_goals
  go_ret
  exact⟨AM (by simp [EH];omega),rfl⟩
theorem KM(c:Int)(w:ο):XR μ 188 #[ι .u8 c] w λe w'=>e=ρ (β (EH c))/\w'=w:=by
 go_enter Tryz.func188,Tryz.ntmps188
 go_wp2;all_goals
  go_ret
  exact⟨AM (by simp [EH];omega),rfl⟩
theorem TS(c:Int)(w:ο):XR μ 209 #[ι .u8 c] w λe w'=>e=ρ (β (Ic c))/\w'=w:=by
 go_enter Tryz.func209,Tryz.ntmps209
 go_wp2;all_goals
  go_ret
  exact⟨AM (by simp [Ic];omega),rfl⟩
theorem LA(c:Int)(w:ο):XR μ 191 #[ι .u8 c] w λe w'=>e=ρ (β (EG c))/\w'=w:=by
 go_enter Tryz.func191,Tryz.ntmps191
 go_wp2;all_goals
  go_ret
  exact⟨AM (by simp [EG,Bb];omega),rfl⟩
theorem Cj(x lo hi:Int)(w:ο):XR μ 171 #[ι κ x,ι κ lo,ι κ hi] w λe w'=>e=ρ (β (Bb x lo hi))/\w'=w:=by
 go_enter Tryz.func171,Tryz.ntmps171
 go_wp2;all_goals
  go_ret
  exact⟨AM (by simp [Bb];omega),rfl⟩
theorem Rx(c:Int)(w:ο):XR μ 175 #[ι .u8 c] w λe w'=>e=ρ (β (C3 c))/\w'=w:=by
 go_enter Tryz.func175,Tryz.ntmps175
 go_wp2_with (go_at_call 172;refine(JZ c _).mono ?_;rintro e w1 ⟨rfl,rfl⟩;rcases hb:EH c)
 all_goals
  go_ret
  exact⟨AM (Bool.eq_iff_iff.2 (by simp [C3,Ic,hb] <;> omega)),rfl⟩
theorem K9(c:Int)(w:ο):XR μ 190 #[ι .u8 c] w λe w'=>e=ρ (β (C3 c))/\w'=w:=by
 go_enter Tryz.func190,Tryz.ntmps190
 go_wp2_with (first | (go_at_call 188;refine(KM c _).mono ?_;rintro e w1 ⟨rfl,rfl⟩;rcases hb:EH c) | (go_at_call 209;refine(TS c _).mono ?_;rintro e w1 ⟨rfl,rfl⟩;rcases hd:Ic c))
 all_goals
  go_ret
  exact⟨AM (by simp [C3, *]),rfl⟩
theorem Gs(n:Int)(w:ο):XR μ 176 #[ι κ n] w λe w'=>e=ρ (β (C2 n))/\w'=w:=by
 go_enter Tryz.func176,Tryz.ntmps176
 go_wp2;go_ret
 exact⟨AM (by simp [C2]),rfl⟩
theorem He(n:Int)(w:ο):XR μ 155 #[ι κ n] w λe w'=>e=ρ (β (C2 n))/\w'=w:=by
 go_enter Tryz.func155,Tryz.ntmps155
 go_wp2;go_ret
 exact⟨AM (by simp [C2]),rfl⟩
theorem JW(n:Int)(w:ο):XR μ 127 #[ι κ n] w λe w'=>e=ρ (β (DR n))/\w'=w:=by
 go_enter Tryz.func127,Tryz.ntmps127
 go_wp2;all_goals
  go_ret
  exact⟨AM (by simp [DR, *]),rfl⟩
theorem BO(n:Int)(w:ο):XR μ 80 #[ι κ n] w λe w'=>e=ρ (ι κ (Aj n))/\w'=w:=by
 go_enter Tryz.func80,Tryz.ntmps80
 go_wp2;all_goals
  go_ret
  exact⟨by
   show ρ (ι κ _)=_
   unfold Aj;try simp only [beq_iff_eq,beq_eq_false_iff_ne,ne_eq] at *
   congr 2
   (repeat' split) <;> omega,rfl⟩
theorem W6(c:UInt8):wrap64 (c.toNat:Int)=c.toNat:=by
 have:=c.toNat_lt;unfold wrap64;omega
theorem JX(s:ByteArray)(w:ο)(hs:s.size<=1048576):XR μ 177 #[τ s] w λe w'=>e=ρ (β (BD s))/\w'=w:=by
 go_enter Tryz.func177,Tryz.ntmps177
 go_wp2
 ·
  go_ret
  exact⟨AM (by simp [BD];omega),rfl⟩
 ·
  go_loop [3] (λi=>∃ k:Nat,k<=s.size/\i=ι κ k/\∀ j (h:j<s.size),j<k->Bb s[j].toNat 32 126=true) (λi=>s.size - (XX i).toNat)
  case atStart=>exact⟨0,by omega,rfl,λj _ h=>by omega⟩
  case round=>
   obtain⟨k,hk,rfl,hall⟩:=hrel;by_cases hlt:k<s.size
   ·
    go_wp2_with (go_at_call 171;refine(Cj _ 32 126 _).mono ?_;rw [W6];rintro e w1 ⟨rfl,rfl⟩;rcases hb:Bb s[k].toNat 32 126)
    ·
     go_ret
     exact⟨AM (by simp [BD,Db (p:=EG) hlt hb]),rfl⟩
    ·
     go_round
     case rel=>exact⟨k+1,by omega,by go_num,λj h hj=>by
      by_cases e:j=k
      · subst e;exact hb
      · exact hall j h (by omega)⟩
     case measure=>simp [XX];omega
   ·
    go_wp2;go_ret
    exact⟨AM (by simp [BD,D7 (p:=EG) (λj h=>hall j h (by omega))] <;> omega),rfl⟩
theorem QG(s:ByteArray)(w:ο)(hs:s.size<=1048576):XR μ 189 #[τ s,.func (.func 191) #[] #[]] w λe w'=>∃ n:Nat,e=ρ (ι κ n)/\w'=w/\(n=s.size↔Hs EG s=true):=by
 go_enter Tryz.func189,Tryz.ntmps189
 go_wp2;go_loop [5] (λi=>∃ k:Nat,k<=s.size/\i=ι κ k/\∀ j (h:j<s.size),j<k->EG s[j].toNat=true) (λi=>s.size - (XX i).toNat)
 case atStart=>exact⟨0,by omega,rfl,λj _ h=>by omega⟩
 case round=>
  obtain⟨k,hk,rfl,hall⟩:=hrel;by_cases hlt:k<s.size
  ·
   go_wp2_with (go_at_call 191;refine(LA _ _).mono ?_;rintro e w1 ⟨rfl,rfl⟩;rcases hb:EG s[k].toNat)
   ·
    go_ret
    exact⟨k,rfl,rfl,by rw [Db (p:=EG) hlt hb];simp;omega⟩
   ·
    go_round
    case rel=>exact⟨k+1,by omega,by go_num,λj h hj=>by
     by_cases e:j=k
     · subst e;exact hb
     · exact hall j h (by omega)⟩
    case measure=>simp [XX];omega
  ·
   go_wp2;go_ret
   exact⟨k,rfl,rfl,by rw [D7 (p:=EG) (λj h=>hall j h (by omega))];simp;omega⟩
theorem QF(s:ByteArray)(w:ο)(hs:s.size<=1048576):XR μ 189 #[τ s,.func (.func 190) #[] #[]] w λe w'=>∃ n:Nat,e=ρ (ι κ n)/\w'=w/\(n=s.size↔Hs C3 s=true):=by
 go_enter Tryz.func189,Tryz.ntmps189
 go_wp2;go_loop [5] (λi=>∃ k:Nat,k<=s.size/\i=ι κ k/\∀ j (h:j<s.size),j<k->C3 s[j].toNat=true) (λi=>s.size - (XX i).toNat)
 case atStart=>exact⟨0,by omega,rfl,λj _ h=>by omega⟩
 case round=>
  obtain⟨k,hk,rfl,hall⟩:=hrel;by_cases hlt:k<s.size
  ·
   go_wp2_with (go_at_call 190;refine(K9 _ _).mono ?_;rintro e w1 ⟨rfl,rfl⟩;rcases hb:C3 s[k].toNat)
   ·
    go_ret
    exact⟨k,rfl,rfl,by rw [Db (p:=C3) hlt hb];simp;omega⟩
   ·
    go_round
    case rel=>exact⟨k+1,by omega,by go_num,λj h hj=>by
     by_cases e:j=k
     · subst e;exact hb
     · exact hall j h (by omega)⟩
    case measure=>simp [XX];omega
  ·
   go_wp2;go_ret
   exact⟨k,rfl,rfl,by rw [D7 (p:=C3) (λj h=>hall j h (by omega))];simp;omega⟩
theorem Bt{a b:ByteArray}(h:a.toList=b.toList):a=b:=by
 rw [ByteArray.toList_eq,ByteArray.toList_eq] at h;obtain⟨⟨a⟩⟩:=a;obtain⟨⟨b⟩⟩:=b;simp at h
 rw [h]
theorem Tb(a b:ByteArray):(a.toList == b.toList)=decide (a=b):=by
 by_cases h:a=b
 · subst h;simp
 ·
  simp [h]
  exact λe=>h (Bt e)
theorem BY(s:ByteArray):s.toList=[]↔s.size=0:=by
 rw [ByteArray.toList_eq];constructor
 · intro h;have:=congrArg List.length h;simpa using this
 · intro h;exact List.length_eq_zero_iff.1 (by simpa using h)
theorem NG(s:ByteArray)(w:ο)(hs:s.size<=1048576):XR μ 156 #[τ s] w λe w'=>e=ρ (β (BD s))/\w'=w:=by
 go_enter Tryz.func156,Tryz.ntmps156
 go_wp2_with (go_at_call 189;refine(QG s _ hs).mono ?_;rintro e w1 ⟨n,rfl,rfl,hn⟩)
 all_goals
  go_ret
  refine⟨AM (Bool.eq_iff_iff.2 ?_),rfl⟩;first
   | (simp [BD,←hn] <;> omega)
   | (simp [BD] <;> omega)
def NU(s:ByteArray):Int:=if h:0<s.size then s[0].toNat else 0
theorem Ds{s:ByteArray}(h:0<s.size):NU s=s[0].toNat:=by simp [NU,h]
def CI(s:ByteArray):Bool:=decide (0<s.size) && decide ((s.size:Int)<=30) && EH (NU s) && Hs C3 s
theorem Vb(s:ByteArray)(w:ο)(hs:s.size<=1048576):XR μ 154 #[τ s] w λe w'=>e=ρ (β (CI s))/\w'=w:=by
 go_enter Tryz.func154,Tryz.ntmps154
 by_cases h0:0<s.size
 ·
  have h0':¬s.toList=[]:=λh=>by have:=(BY s).1 h;omega
  go_wp2_with (first | (go_at_call 188;refine(KM _ _).mono ?_;rintro e w1 ⟨rfl,rfl⟩;rcases hb:EH s[0].toNat) | (go_at_call 189;refine(QF s _ hs).mono ?_;rintro e w1 ⟨n,rfl,rfl,hn⟩))
  all_goals
   go_ret
   refine⟨AM (Bool.eq_iff_iff.2 ?_),rfl⟩;first
    | (rcases ha:Hs C3 s <;> simp [ha] at hn <;> simp [CI,Ds h0,hb,ha,h0'] <;> omega)
    | (simp [CI,Ds h0,hb] <;> omega)
    | (simp [CI] <;> omega)
 ·
  have h0':s.toList=[]:=(BY s).2 (by omega);go_wp2;go_ret
  exact⟨AM (by simp [CI,h0]),rfl⟩
end Go.Proofs.YtfnfdllflgmhnaaGreatDoor
namespace Go.Proofs.YtfnfdllflgmhnaaGreatDoor
open Go.RowKit Go.Maps
set_option maxRecDepth 20000
set_option maxHeartbeats 4000000
def Hb:List ByteArray:=[⟨#[99,114,101,97,116,101]⟩,⟨#[116,97,98,108,101]⟩,⟨#[105,110,115,101,114,116]⟩,⟨#[105,110,116,111]⟩,⟨#[118,97,108,117,101,115]⟩,⟨#[117,112,100,97,116,101]⟩,⟨#[115,101,116]⟩,⟨#[100,101,108,101,116,101]⟩,⟨#[102,114,111,109]⟩,⟨#[119,104,101,114,101]⟩,⟨#[115,101,108,101,99,116]⟩,⟨#[97,110,100]⟩,⟨#[111,114]⟩,⟨#[110,111,116]⟩,⟨#[108,101,110]⟩,⟨#[105,110,116]⟩,⟨#[116,101,120,116]⟩]
def Hc(s:ByteArray)(L:List ByteArray):Bool:=L.any λx=>decide (x=s)
theorem K8{s:ByteArray}{L:List ByteArray}{k:Nat}(hk:k<L.length)(h:L[k]=s):Hc s L=true:=by
 unfold Hc;rw [List.any_eq_true];exact⟨L[k],List.getElem_mem _,by simp [h]⟩
theorem JE{s:ByteArray}{L:List ByteArray}(h:∀ k (hk:k<L.length),¬L[k]=s):Hc s L=false:=by
 unfold Hc;rw [List.any_eq_false];intro x hx;obtain⟨j,hj,rfl⟩:=List.getElem_of_mem hx;simp [h j hj]
def AV(s:ByteArray):Bool:=CI s && !Hc s Hb
theorem AE(w:ο)(o:Obj):υ w.heap.size w (w.alloc o):=(Xa _ _).alloc (XK _) _
theorem B0{w w1:ο}{o:Obj}(h:υ (w.alloc o).heap.size (w.alloc o) w1):υ w.heap.size w w1:=(AE w o).trans (h.mono (AE w o).size)
theorem AA{a b c:ο}(h:υ a.heap.size a b)(k:υ b.heap.size b c):υ a.heap.size a c:=h.trans (k.mono h.size)
theorem AB{w w':ο}{p:Addr}{v:XU}(hb:υ w.heap.size w w')(hc:w.cell? p=ς v):w'.cell? p=ς v:=(hb.cell (World.block_lt_of_cell? w _ hc)).trans hc
def SL(w:ο)(a:Option Addr)(L:List ByteArray):Prop:=∀ k (h:k<L.length),∃ b off,a=ς ⟨b,off,ν⟩/\w.cell? ⟨b,off+k,ν⟩=ς (τ L[k])
theorem Lb(w:ο)(L:List ByteArray)(t:TypeId):SL (w.alloc (γ (L.map τ).toArray t)) (ς ⟨w.heap.size,0,ν⟩) L:=λk hk=>
 ⟨w.heap.size,0,rfl,by rw [XT];exact(ε _ _ k _ _ _ (η w _)).trans (by simp [hk])⟩
theorem Ko(w:ο):XR μ 174 #[] w λe w'=>∃ a,e=ρ (σ a 17 17)/\SL w' a Hb/\υ w.heap.size w w':=by
 go_enter Tryz.func174,Tryz.ntmps174
 go_wp2;go_ret
 exact⟨_,rfl,Lb w Hb _,(Xa _ _).alloc (XK _) _⟩
theorem Wb(a:Option Addr)(n c:Nat)(L:List ByteArray)(hn:L.length=n)(s:ByteArray)(w:ο)(h:SL w a L)(hn2:n<=1048576):XR μ 173 #[σ a n c,τ s] w λe w'=>e=ρ (β (Hc s L))/\w'=w:=by
 go_enter Tryz.func173,Tryz.ntmps173
 go_wp2;go_loop [6,9] (λ_ i=>∃ k:Nat,k<=n/\i=ι κ k/\∀ j (hj:j<L.length),j<k->¬L[j]=s) (λ_ i=>n - (XX i).toNat)
 case atStart=>exact⟨0,by omega,rfl,λj _ h=>by omega⟩
 case round=>
  obtain⟨k,hk,rfl,hall⟩:=hrel;by_cases hlt:k<n
  ·
   obtain⟨b,off,rfl,hc⟩:=h k (by omega);by_cases he:L[k]=s
   ·
    have he2:(L[k].toList == s.toList)=true:=by rw [Tb];simp [he]
    go_wp2;go_ret
    exact⟨AM (K8 (by omega) he).symm,rfl⟩
   ·
    have he2:(L[k].toList == s.toList)=false:=by rw [Tb];simp [he]
    go_wp2;go_round
    case rel=>exact⟨k+1,by omega,by go_num,λj hj hjk=>by
     by_cases e:j=k
     · subst e;exact he
     · exact hall j hj (by omega)⟩
    case measure=>simp [XX];omega
  ·
   go_wp2;go_ret
   exact⟨AM (JE λj hj=>hall j hj (by omega)).symm,rfl⟩
theorem Dd(s:ByteArray)(w:ο)(hs:s.size<=1048576):XR μ 126 #[τ s] w λe w'=>e=ρ (β (AV s))/\υ w.heap.size w w':=by
 have hb0:=Xa w.heap.size w;go_enter Tryz.func126,Tryz.ntmps126
 by_cases h0:0<s.size
 ·
  go_wp2_with (first | (go_at_call 171;refine(Cj _ 1 30 _).mono ?_;rintro e w1 ⟨rfl,rfl⟩;rcases hbt:Bb s.size 1 30) | (go_at_call 172;refine(JZ _ _).mono ?_;rintro e w1 ⟨rfl,rfl⟩;rcases hl:EH s[0].toNat) | (go_at_call 174;refine(Ko _).mono ?_;rintro e w1 ⟨a,rfl,hk1,hb2⟩) | (go_at_call 173;refine(Wb _ 17 17 Hb rfl s _ hk1 (by omega)).mono ?_;rintro e w2 ⟨rfl,rfl⟩;rcases hm:Hc s Hb))
  ·
   go_ret
   exact⟨AM (by simp [Bb] at hbt;simp [AV,CI,Ds h0] <;> omega),hb0⟩
  ·
   go_ret
   exact⟨AM (by simp [AV,CI,Ds h0,hl]),hb0⟩
  ·
   go_loop [3] (λi=>∃ k:Nat,k<=s.size/\i=ι κ k/\∀ j (h:j<s.size),j<k->C3 s[j].toNat=true) (λi=>s.size - (XX i).toNat)
   case atStart=>exact⟨0,by omega,rfl,λj _ h=>by omega⟩
   case round=>
    obtain⟨k,hk,rfl,hall⟩:=hrel;by_cases hlt:k<s.size
    ·
     go_wp2_with (go_at_call 175;refine(Rx _ _).mono ?_;rintro e w1 ⟨rfl,rfl⟩;rcases hb:C3 s[k].toNat)
     ·
      go_ret
      exact⟨AM (by simp [AV,CI,Db (p:=C3) hlt hb]),hb2⟩
     ·
      go_round
      case rel=>exact⟨k+1,by omega,by go_num,λj h hj=>by
       by_cases e:j=k
       · subst e;exact hb
       · exact hall j h (by omega)⟩
      case measure=>simp [XX];omega
    ·
     go_wp2;go_ret
     exact⟨AM (by simp [Bb] at hbt;simp [AV,CI,D7 (p:=C3) (λj h=>hall j h (by omega)),Ds h0,hl,h0,hm];omega),hb2⟩
  ·
   go_ret
   exact⟨AM (by simp [AV,hm]),hb2⟩
 ·
  have hbt:Bb s.size 1 30=false:=by simp [Bb];omega
  go_wp2_with (go_at_call 171;refine(Cj _ 1 30 _).mono ?_;rintro e w1 ⟨rfl,rfl⟩;rw [hbt])
  go_ret
  exact⟨AM (by simp [AV,CI,h0]),hb0⟩
end Go.Proofs.YtfnfdllflgmhnaaGreatDoor
namespace Go.Proofs.YtfnfdllflgmhnaaGreatDoor
open Go.RowKit
def SpT(w:ο):Prop:=∀ c:Nat,c<256->w.cell? ⟨0,c,ν⟩=ς (ι .u8 (if Lib.isSp (UInt8.ofNat c) then 1 else 0))
theorem SpT.later{w w':ο}(h:SpT w)(hb:υ w.heap.size w w'):SpT w':=λc hc=>AB hb (h c hc)
theorem Nb(s:ByteArray)(w:ο)(hs:s.size<4294967281)(hascii:∀ (j:Nat) b,s.data.toList[j]?=ς b->b.toNat<128)(hT:SpT w):XR μ 146 #[τ s] w λe w'=>
 e=ρ (σ (ς ⟨w.heap.size,0,ν⟩) (Lib.fields s.data.toList).length (Lib.fields s.data.toList).length)/\w'=w.alloc (γ ((Lib.fields s.data.toList).map λl=>τ ⟨l.toArray⟩).toArray 9):=
 Any.strings_Fields_core Tryz.lays157 (by kernel_rfl) s w hs hascii hT
end Go.Proofs.YtfnfdllflgmhnaaGreatDoor
namespace Go.Proofs.YtfnfdllflgmhnaaGreatDoor
open Go.RowKit Go.Maps Go.WideMaps
set_option maxRecDepth 20000
set_option maxHeartbeats 4000000
theorem K6:Keyed μ 9:=string_keyed Tryz.underlying9
theorem Tm(w:ο):(zeroValue 212).run μ w=.ok (χ #[]) w:=by kernel_rfl
def Cf(s:ByteArray):Lit:=.string s.data.toList
def KwAt(w:ο)(b:Nat):Prop:=w.ownsMap μ 9 (unitElem (H:=Unit)) b 17 (setOf (.agg []) (Hb.map Cf))
theorem KwAt.later{w w':ο}{b:Nat}(h:KwAt w b)(hb:υ w.heap.size w w'):KwAt w' b:=by
 have hl:=h.lt;obtain⟨es,clock,h1,F,hs,hD⟩:=h;exact⟨es,clock,(hb.block _ hl).trans h1,F,hs,hD⟩
theorem Pz(L:List ByteArray)(s:ByteArray):Maps.has (setOf (H:=Unit) (.agg []) (L.map Cf)) (Cf s)=Hc s L:=by
 rw [has_setOf _ _ _ (by intro x hx;obtain⟨y,_,rfl⟩:=List.mem_map.1 hx;exact trivial)];unfold Hc;rw [List.any_map];congr 1
 funext x
 show (x.data.toList == s.data.toList)=_
 rw [←Tb,ByteArray.toList_eq,ByteArray.toList_eq]
theorem Na(s:ByteArray)(w:ο)(hs:s.size<4294967281)(hascii:(s.data.toList.all λb=>decide (b.toNat<128))=true)(hf:Lib.fields s.data.toList=Hb.map λx=>x.data.toList)(hT:SpT w):XR μ 146 #[τ s] w λe w'=>
 e=ρ (σ (ς ⟨w.heap.size,0,ν⟩) 17 17)/\w'=w.alloc (γ (Hb.map τ).toArray 9):=
 (Nb s w hs (λj b hb=>by simpa using List.all_eq_true.1 hascii b (List.mem_of_getElem? hb)) hT).mono λe w' ⟨he,hw⟩=>by
  rw [hf] at he hw;exact⟨by rw [he,List.length_map];rfl,by rw [hw,List.map_map];rfl⟩
theorem K7(k:Nat)(hk:k<Hb.length):Hb[k].size<=10:=by
 have h:Hb.all (λx=>decide (x.size<=10))=true:=by kernel_rfl
 simpa using List.all_eq_true.1 h Hb[k] (List.getElem_mem _)
theorem CM(w:ο)(hT:SpT w):XR μ 103 #[] w λe w'=>∃ b,e=ρ (.map (ς b))/\KwAt w' b/\υ w.heap.size w w':=by
 have hmm:=@run_makeMap μ;go_enter Tryz.func103,Tryz.ntmps103
 go_wp2_with (go_at_call 146;refine(Na _ _ (by decide) (by kernel_rfl) (by kernel_rfl) (hT.later (AE _ _))).mono ?_;rintro e w1 ⟨rfl,rfl⟩)
 have e17:Hb.length=17:=rfl;go_loopw [3,7] (λ_ i wr=>∃ k:Nat,k<=17/\i=ι κ k/\wr.ownsMap μ 9 (unitElem (H:=Unit)) w.heap.size k (setOf (.agg []) ((Hb.take k).map Cf))/\υ w.heap.size w wr/\SL wr (ς ⟨w.heap.size+1,0,ν⟩) Hb) (λ_ i _=>17 - (XX i).toNat)
 case atStart=>
  refine⟨0,by omega,rfl,?_,AA (AE _ _) (AE _ _),?_⟩
  · exact(World.ownsMap_made w μ 9 (unitElem (H:=Unit))).alloc _
  · have h:=Lb (w.alloc (.map #[] 0)) Hb 9;simpa using h
 case round=>
  obtain⟨k,hk,rfl,hown,hb,hS⟩:=hrel;by_cases hlt:k<17
  ·
   obtain⟨b,off,e,hc⟩:=hS k (by omega);obtain⟨rfl,rfl⟩:w.heap.size+1=b/\0=off:=by simpa using e
   have hsh:=K7 k (by omega);rw [XT] at hc;have hkey:keyOf μ 9 (τ Hb[k])=ς (Cf Hb[k]):=keyOf_string_mk Tryz.underlying9 (by unfold maxLen;omega);go_wp2_with (first | (at_mapUpdate;refine wpList_mapUpdate_own _ rfl _ _ _ 164 rfl 9 212 K6 Tryz.underlying164 (unitElem (H:=Unit)) w.heap.size k _ rfl hown (by unfold maxLen;omega) _ _ _ rfl rfl hkey _ [] unitElem_mk ?_;intro w1 hown1 hgrow1) | go_in)
   go_roundw
   case rel=>
    refine⟨k+1,by omega,by go_num,?_,hb.grown hgrow1 hb.size (λj hj=>by cases hj;exact XK _),λj hj=>?_⟩
    · rw [List.take_succ_eq_append_getElem (by omega),List.map_append,List.map_cons,List.map_nil,setOf_snoc];exact hown1
    ·
     obtain⟨b',off',e',hc'⟩:=hS j hj;obtain⟨rfl,rfl⟩:w.heap.size+1=b'/\0=off':=by simpa using e'
     refine⟨_,_,rfl,?_⟩;exact hgrow1.cell hc' (by simp)
   case measure=>simp [XX];omega
  ·
   obtain rfl:k=17:=by omega
   go_wp2;go_ret
   exact⟨_,rfl,hown,hb⟩
theorem DD(b:Nat)(s:ByteArray)(w:ο)(hK:KwAt w b)(hs:s.size<=1048576):XR μ 107 #[.map (ς b),τ s] w λe w'=>e=ρ (β (AV s))/\υ w.heap.size w w':=by
 have hkey:keyOf μ 9 (τ s)=ς (Cf s):=keyOf_string_mk Tryz.underlying9 (by unfold maxLen;omega);have hh:=Pz Hb s;go_enter Tryz.func107,Tryz.ntmps107
 go_wp2_with (first | (at_lookup;refine wpList_lookup_own_unit _ rfl _ _ 164 rfl 9 212 K6 Tryz.underlying164 (Tm _) b 17 _ rfl hK _ _ rfl hkey ?_;rw [hh]) | (go_at_call 154;refine(Vb s _ hs).mono ?_;rintro e w1 ⟨rfl,rfl⟩;rcases ho:CI s) | go_in)
 all_goals
  go_ret
  exact⟨AM (by simp [AV,ho]),AE _ _⟩
set_option maxHeartbeats 2000000
theorem Ib(s:ByteArray):s.toList.isEmpty=decide (s.size=0):=by
 rw [Bool.eq_iff_iff,List.isEmpty_iff,BY];simp
def Ap(t m:Int)(s:ByteArray):Bool:=(t == 1 && C2 m && decide (s.size=0)) || (t == 2 && m == 0 && BD s)
def Av(o m:Int)(s:ByteArray):Bool:=(o == 1 && C2 m && decide (s.size=0)) || (o == 2 && m == 0 && BD s) || (o == 3 && m == 0 && AV s) || (Bb o 4 13 && m == 0 && decide (s.size=0))
def Bx(s:ByteArray)(t:Int):Bool:=AV s && DR t
theorem Ia{w w2:ο}{x y:XU}{t:TypeId}(hb:υ (w.alloc (γ #[x,y] t)).heap.size (w.alloc (γ #[x,y] t)) w2) :
 w2.cell? ⟨w.heap.size,0,ν⟩=ς x/\w2.cell? ⟨w.heap.size,1,ν⟩=ς y:=by
 have h0:(w.alloc (γ #[x,y] t)).cell? ⟨w.heap.size,0,ν⟩=ς x:=(ε _ _ 0 _ _ _ (η w _)).trans rfl;have h1:(w.alloc (γ #[x,y] t)).cell? ⟨w.heap.size,1,ν⟩=ς y:=(ε _ _ 1 _ _ _ (η w _)).trans rfl;exact⟨AB hb h0,AB hb h1⟩
theorem DQ{w w2:ο}{x y z:XU}{t:TypeId}(hb:υ (w.alloc (γ #[x,y,z] t)).heap.size (w.alloc (γ #[x,y,z] t)) w2) :
 w2.cell? ⟨w.heap.size,0,ν⟩=ς x/\w2.cell? ⟨w.heap.size,1,ν⟩=ς y/\w2.cell? ⟨w.heap.size,2,ν⟩=ς z:=by
 have h0:(w.alloc (γ #[x,y,z] t)).cell? ⟨w.heap.size,0,ν⟩=ς x:=(ε _ _ 0 _ _ _ (η w _)).trans rfl;have h1:(w.alloc (γ #[x,y,z] t)).cell? ⟨w.heap.size,1,ν⟩=ς y:=(ε _ _ 1 _ _ _ (η w _)).trans rfl;have h2:(w.alloc (γ #[x,y,z] t)).cell? ⟨w.heap.size,2,ν⟩=ς z:=(ε _ _ 2 _ _ _ (η w _)).trans rfl;exact⟨AB hb h0,AB hb h1,AB hb h2⟩
theorem bj{w wr w2:ο}{o:Obj}(hb:υ w.heap.size w wr)(h:υ (wr.alloc o).heap.size (wr.alloc o) w2):υ w.heap.size w w2:=hb.trans ((B0 h).mono hb.size)
theorem Rs(t m:Int)(s:ByteArray)(w:ο)(hs:s.size<=1048576):XR μ 128 #[χ #[ι κ t,ι κ m,τ s]] w λe w'=>e=ρ (β (Ap t m s))/\υ w.heap.size w w':=by
 have hE:=Ib s;go_enter Tryz.func128,Tryz.ntmps128
 by_cases h1:t=1
 ·
  subst h1;go_wp2_with (first | (go_at_call 176;refine(Gs _ _).mono ?_;rintro e w1 ⟨rfl,rfl⟩;rcases hn:C2 m) | (go_at_call 177;refine(JX s _ hs).mono ?_;rintro e w1 ⟨rfl,rfl⟩;rcases ht:BD s))
  all_goals
   go_ret
   exact⟨AM (by simp [Ap, *]),AE _ _⟩
 ·
  have h1':(t == 1)=false:=by simp [h1]
  by_cases h2:t=2
  ·
   subst h2;go_wp2_with (first | (go_at_call 176;refine(Gs _ _).mono ?_;rintro e w1 ⟨rfl,rfl⟩;rcases hn:C2 m) | (go_at_call 177;refine(JX s _ hs).mono ?_;rintro e w1 ⟨rfl,rfl⟩;rcases ht:BD s))
   all_goals
    go_ret
    exact⟨AM (by simp [Ap, *]),AE _ _⟩
  ·
   have h2':(t == 2)=false:=by simp [h2]
   go_wp2;go_ret
   exact⟨AM (by simp [Ap, *]),AE _ _⟩
theorem Hd(t m:Int)(s:ByteArray)(w:ο)(hs:s.size<=1048576):XR μ 112 #[χ #[ι κ t,ι κ m,τ s]] w λe w'=>e=ρ (β (Ap t m s))/\υ w.heap.size w w':=by
 have hE:=Ib s;go_enter Tryz.func112,Tryz.ntmps112
 by_cases h1:t=1
 ·
  subst h1;go_wp2_with (first | (go_at_call 155;refine(He _ _).mono ?_;rintro e w1 ⟨rfl,rfl⟩;rcases hn:C2 m) | (go_at_call 156;refine(NG s _ hs).mono ?_;rintro e w1 ⟨rfl,rfl⟩;rcases ht:BD s))
  all_goals
   go_ret
   exact⟨AM (by simp [Ap, *]),AE _ _⟩
 ·
  have h1':(t == 1)=false:=by simp [h1]
  by_cases h2:t=2
  ·
   subst h2;go_wp2_with (first | (go_at_call 155;refine(He _ _).mono ?_;rintro e w1 ⟨rfl,rfl⟩;rcases hn:C2 m) | (go_at_call 156;refine(NG s _ hs).mono ?_;rintro e w1 ⟨rfl,rfl⟩;rcases ht:BD s))
   all_goals
    go_ret
    exact⟨AM (by simp [Ap, *]),AE _ _⟩
  ·
   have h2':(t == 2)=false:=by simp [h2]
   go_wp2;go_ret
   exact⟨AM (by simp [Ap, *]),AE _ _⟩
theorem Pr(b:Nat)(s:ByteArray)(t:Int)(w:ο)(hK:KwAt w b)(hs:s.size<=1048576):XR μ 110 #[.map (ς b),χ #[τ s,ι κ t]] w λe w'=>e=ρ (β (Bx s t))/\υ w.heap.size w w':=by
 have hK1:=hK.later (AE w (γ #[τ s,ι κ t] 92));go_enter Tryz.func110,Tryz.ntmps110
 go_wp2_with (go_at_call 107;refine(DD b s _ hK1 hs).mono ?_;rintro e w1 ⟨rfl,hb⟩;obtain⟨d0,d1⟩:=Ia hb;rcases hn:AV s)
 all_goals
  go_ret
  exact⟨AM (by simp [Bx,DR, *]),B0 hb⟩
theorem UD(o m:Int)(s:ByteArray)(w:ο)(hs:s.size<=1048576):XR μ 178 #[χ #[ι κ o,ι κ m,τ s]] w λe w'=>e=ρ (β (Av o m s))/\υ w.heap.size w w':=by
 have hE:=Ib s;go_enter Tryz.func178,Tryz.ntmps178
 by_cases h1:o=1
 ·
  subst h1;have hbt:Bb 1 4 13=false:=rfl;go_wp2_with (go_at_call 176;refine(Gs _ _).mono ?_;rintro e w1 ⟨rfl,rfl⟩;rcases hn:C2 m)
  all_goals
   go_ret
   exact⟨AM (by simp [Av, *]),AE _ _⟩
 have h1':(o == 1)=false:=by simp [h1]
 by_cases h2:o=2
 ·
  subst h2;have hbt:Bb 2 4 13=false:=rfl;go_wp2_with (go_at_call 177;refine(JX s _ hs).mono ?_;rintro e w1 ⟨rfl,rfl⟩;rcases ht:BD s)
  all_goals
   go_ret
   exact⟨AM (by simp [Av, *]),AE _ _⟩
 have h2':(o == 2)=false:=by simp [h2]
 by_cases h3:o=3
 ·
  subst h3;have hbt:Bb 3 4 13=false:=rfl;go_wp2_with (go_at_call 126;refine(Dd s _ hs).mono ?_;rintro e w1 ⟨rfl,hb2⟩;rcases ht:AV s)
  all_goals
   go_ret
   first
    | exact⟨AM (by simp [Av, *]),AE _ _⟩
    | exact⟨AM (by simp [Av, *]),B0 hb2⟩
 have h3':(o == 3)=false:=by simp [h3]
 go_wp2_with (go_at_call 171;refine(Cj _ 4 13 _).mono ?_;rintro e w1 ⟨rfl,rfl⟩;rcases hbt:Bb o 4 13)
 all_goals
  go_ret
  exact⟨AM (by simp [Av, *]),AE _ _⟩
set_option maxHeartbeats 4000000
structure Itm where
 o:Int
 m:Int
 s:ByteArray
def IL(w:ο)(a:Option Addr)(n:Nat)(I:Nat->Itm):Prop:=
 ∀ k,k<n->∃ b off,a=ς ⟨b,off,ν⟩/\w.cell? ⟨b,off+k * 3,ν⟩=ς (ι κ (I k).o)/\w.cell? ⟨b,off+k * 3+1,ν⟩=ς (ι κ (I k).m)/\w.cell? ⟨b,off+k * 3+2,ν⟩=ς (τ (I k).s)/\(I k).s.size<=1048576
theorem IL.later{w w':ο}{a:Option Addr}{n:Nat}{I:Nat->Itm}(h:IL w a n I)(hb:υ w.heap.size w w'):IL w' a n I:=λk hk=>by
 obtain⟨b,off,e,h0,h1,h2,hs⟩:=h k hk;exact⟨b,off,e,AB hb h0,AB hb h1,AB hb h2,hs⟩
def ex(I:Nat->Itm):Nat->Option Int
 | 0=>ς 0
 | k+1=>match ex I k with
  | none=>ν
  | some d=>if Av (I k).o (I k).m (I k).s=true/\Aj (I k).o<=d then ς (d+(1 - Aj (I k).o)) else ν
theorem KU{I:Nat->Itm}{k:Nat}(h:ex I k=ν):∀ n,k<=n->ex I n=ν:=by
 intro n hn;induction n with
 | zero=>
  obtain rfl:k=0:=by omega
  exact h
 | succ n ih=>
  by_cases e:k=n+1
  · subst e;exact h
  · rw [ex,ih (by omega)]
theorem CF(o:Int):0<=Aj o/\Aj o<=2:=by unfold Aj;(repeat' split) <;> omega
theorem F0{I:Nat->Itm}:∀ {k:Nat} {d:Int},ex I k=ς d->0<=d/\d<=k:=by
 intro k;induction k with
 | zero=>intro d h;simp [ex] at h;omega
 | succ k ih=>
  intro d h;have ha:=CF (I k).o;rw [ex] at h;split at h
  · cases h
  ·
   rename_i x hx
   have:=ih hx;split at h
   ·
    rename_i hc
    cases h
    omega
   · cases h
def Ag(I:Nat->Itm)(n:Nat):Bool:=Bb n 1 100 && decide (ex I n=ς 1)
def AR(I:Nat->Itm)(n:Nat):Bool:=decide (n=0) || Ag I n
theorem Ry(a:Option Addr)(n c:Nat)(I:Nat->Itm)(w:ο)(h:IL w a n I)(hn:n<=1048576):XR μ 129 #[σ a n c] w λe w'=>e=ρ (β (Ag I n))/\υ w.heap.size w w':=by
 have hb0:=Xa w.heap.size w;go_enter Tryz.func129,Tryz.ntmps129
 go_wp2_with (go_at_call 171;refine(Cj _ 1 100 _).mono ?_;rintro e w1 ⟨rfl,rfl⟩;rcases hbt:Bb n 1 100)
 ·
  go_ret
  exact⟨AM (by simp [Ag,hbt]),hb0⟩
 ·
  go_loopw [3,5,12] (λd _ i wr=>∃ (k:Nat) (x:Int),k<=n/\i=ι κ k/\d=ι κ x/\ex I k=ς x/\υ w1.heap.size w1 wr) (λ_ _ i _=>n - (XX i).toNat)
  case atStart=>exact⟨0,0,by omega,rfl,rfl,rfl,hb0⟩
  case round=>
   obtain⟨k,x,hk,rfl,rfl,hx,hb⟩:=hrel;have hxl:=F0 hx;by_cases hlt:k<n
   ·
    have hst:ex I (k+1)=if Av (I k).o (I k).m (I k).s=true/\Aj (I k).o<=x then ς (x+(1 - Aj (I k).o)) else ν:=by rw [ex,hx]
    obtain⟨b,off,rfl,c0,c1,c2,hs⟩:=h.later hb k hlt;have ha:=CF (I k).o;go_wp2_with (first | (go_at_call 178;refine(UD _ _ _ _ hs).mono ?_;rintro e w2 ⟨rfl,hb2⟩;obtain⟨d0,d1,d2⟩:=DQ hb2;replace hb2:=bj hb hb2;rcases ho:Av (I k).o (I k).m (I k).s) | (go_at_call 80;refine(BO (I k).o _).mono ?_;rintro e w3 ⟨rfl,rfl⟩))
    ·
     go_ret
     exact⟨AM (by simp [Ag,KU (hst.trans (by simp [ho])) n (by omega)]),hb2⟩
    ·
     go_ret
     exact⟨AM (by simp [Ag,KU (hst.trans (by rw [if_neg];omega)) n (by omega)]),hb2⟩
    ·
     go_roundw
     case rel=>exact⟨k+1,x+(1 - Aj (I k).o),by omega,by go_num,rfl,hst.trans (by rw [if_pos];exact⟨ho,by omega⟩),hb2⟩
     case measure=>simp [XX];omega
   ·
    obtain rfl:k=n:=by omega
    go_wp2;go_ret
    exact⟨AM (Bool.eq_iff_iff.2 (by simp [Ag,hbt,hx])),hb⟩
theorem I4(a:Option Addr)(n c:Nat)(I:Nat->Itm)(w:ο)(h:IL w a n I)(hn:n<=1048576):XR μ 130 #[σ a n c] w λe w'=>e=ρ (β (AR I n))/\υ w.heap.size w w':=by
 have hb0:=Xa w.heap.size w;go_enter Tryz.func130,Tryz.ntmps130
 by_cases h0:n=0
 ·
  subst h0;go_wp2;go_ret
  exact⟨AM (by simp [AR]),hb0⟩
 ·
  have h0':((n:Int) == 0)=false:=by simp;omega
  go_wp2_with (go_at_call 129;refine(Ry a n c I _ h hn).mono ?_;rintro e w1 ⟨rfl,hb1⟩)
  go_ret
  exact⟨AM (by simp [AR,h0]),hb1⟩
set_option maxHeartbeats 2000000
def DI(o:Int):Bool:=Bb o 4 10 || o == 12
theorem Vk(o:Int)(w:ο):XR μ 210 #[ι κ o] w λe w'=>∃ s:ByteArray,e=ρ (τ s)/\(s.size=0↔DI o=false)/\w'=w:=by
 go_enter Tryz.func210,Tryz.ntmps210
 go_wp2;all_goals
  go_ret
  exact⟨_,rfl,by
   (try simp only [beq_iff_eq,beq_eq_false_iff_ne,ne_eq] at *)
   first
    | (subst_vars;decide)
    | (
     have h1:(⟨#[]⟩:ByteArray).size=0:=rfl;simp [DI,Bb,h1] <;> omega),rfl⟩
theorem R8{a b:Int}(h:a=b):ρ (ι κ a)=ρ (ι κ b):=by rw [h]
def DT(o m:Int)(s:ByteArray):Int:=
 if (o=1/\s.size=0)∨(o=2/\m=0)∨(o=3/\m=0) then 0 else if (o=11∨o=13)/\m=0/\s.size=0 then 1 else if m=0/\s.size=0/\DI o=true then 2 else -1
theorem Cy(o m:Int)(s:ByteArray)(w:ο):XR μ 192 #[χ #[ι κ o,ι κ m,τ s]] w λe w'=>e=ρ (ι κ (DT o m s))/\υ w.heap.size w w':=by
 have hE:=Ib s;have h0:ByteArray.empty.size=0:=rfl;have hz:s.size=0↔s=XN:=by
  constructor
  · intro h;exact Bt (((BY s).2 h).trans ((BY _).2 rfl).symm)
  · rintro rfl;rfl
 by_cases hs:s=XN
 ·
  by_cases hm:m=0
  ·
   subst hs hm;go_enter Tryz.func192,Tryz.ntmps192
   go_wp2_with (go_at_call 210;refine(Vk o _).mono ?_;rintro e w1 ⟨sg,rfl,hsg,rfl⟩;rw [←BY] at hsg;by_cases hq:sg.toList=[])
   all_goals
    go_ret
    exact⟨R8 (by simp_all [DT]),AE _ _⟩
  ·
   subst hs;have hm':(m == 0)=false:=by simp [hm]
   go_enter Tryz.func192,Tryz.ntmps192
   go_wp2;all_goals
    go_ret
    exact⟨R8 (by simp_all [DT]),AE _ _⟩
 ·
  go_enter Tryz.func192,Tryz.ntmps192
  go_wp2;all_goals
   go_ret
   exact⟨R8 (by simp_all [DT]),AE _ _⟩
structure Tr where
 ty:TypeId
 fn:Nat
 pay:XU
 ok:Bool
def Tr.num(n:Int):Tr:=⟨277,230,ι κ n,C2 n⟩
def Tr.txt(s:ByteArray):Tr:=⟨278,231,τ s,BD s⟩
def Tr.col(s:ByteArray):Tr:=⟨279,232,τ s,AV s⟩
def Tr.one(o:Int)(t:Tr):Tr:=⟨281,233,χ #[ι κ o,.iface t.ty t.pay],t.ok⟩
def Tr.two(o:Int)(a b:Tr):Tr:=⟨283,234,χ #[ι κ o,.iface a.ty a.pay,.iface b.ty b.pay],a.ok && b.ok⟩
def Tr.fit(t:Tr):Prop:=(∀ w,(method 411 t.ty t.pay "loop.example/s02884/impl.fits").run μ w=.ok (t.fn,t.pay) w)/\(∀ args w,(callFunc t.fn args).run μ w=.ok (.enter t.fn args) w)/\∀ b w,KwAt w b->XR μ t.fn #[t.pay,.map (ς b)] w λe w'=>e=ρ (β t.ok)/\υ w.heap.size w w'
theorem P6(n:Int):(Tr.num n).fit:=by
 refine⟨λw=>by kernel_rfl,λargs w=>by kernel_rfl,λb w _=>?_⟩;show XR μ 230 #[ι κ n,.map (ς b)] w λe w'=>e=ρ (β (C2 n))/\υ w.heap.size w w'
 go_enter Tryz.func230,Tryz.ntmps230
 go_wp2_with (go_at_call 155;refine(He _ _).mono ?_;rintro e w1 ⟨rfl,rfl⟩)
 go_ret
 exact⟨rfl,Xa _ _⟩
theorem P4(s:ByteArray)(hs:s.size<=1048576):(Tr.txt s).fit:=by
 refine⟨λw=>by kernel_rfl,λargs w=>by kernel_rfl,λb w _=>?_⟩;show XR μ 231 #[τ s,.map (ς b)] w λe w'=>e=ρ (β (BD s))/\υ w.heap.size w w'
 go_enter Tryz.func231,Tryz.ntmps231
 go_wp2_with (go_at_call 156;refine(NG _ _ hs).mono ?_;rintro e w1 ⟨rfl,rfl⟩)
 go_ret
 exact⟨rfl,Xa _ _⟩
theorem P7(s:ByteArray)(hs:s.size<=1048576):(Tr.col s).fit:=by
 refine⟨λw=>by kernel_rfl,λargs w=>by kernel_rfl,λb w hK=>?_⟩;show XR μ 232 #[τ s,.map (ς b)] w λe w'=>e=ρ (β (AV s))/\υ w.heap.size w w'
 go_enter Tryz.func232,Tryz.ntmps232
 go_wp2_with (go_at_call 107;refine(DD b _ _ hK hs).mono ?_;rintro e w1 ⟨rfl,hb⟩)
 go_ret
 exact⟨rfl,hb⟩
theorem KS(o:Int){p:Tr}(h:p.fit):(Tr.one o p).fit:=by
 refine⟨λw=>by kernel_rfl,λargs w=>by kernel_rfl,λb w hK=>?_⟩;show XR μ 233 #[χ #[ι κ o,.iface p.ty p.pay],.map (ς b)] w λe w'=>e=ρ (β p.ok)/\υ w.heap.size w w'
 have m1:=h.1;have n1:=h.2.1;have hp:=h.2.2 b;have hK1:=hK.later (AE w (γ #[ι κ o,.iface p.ty p.pay] 281));go_enter Tryz.func233,Tryz.ntmps233
 go_wp2_with (refine(hp _ hK1).mono ?_;rintro e w1 ⟨rfl,hb⟩)
 go_ret
 exact⟨rfl,B0 hb⟩
theorem P5(o:Int){p q:Tr}(h:p.fit)(h2:q.fit):(Tr.two o p q).fit:=by
 refine⟨λw=>by kernel_rfl,λargs w=>by kernel_rfl,λb w hK=>?_⟩;show XR μ 234 #[χ #[ι κ o,.iface p.ty p.pay,.iface q.ty q.pay],.map (ς b)] w λe w'=>e=ρ (β (p.ok && q.ok))/\υ w.heap.size w w'
 have m1:=h.1;have n1:=h.2.1;have m2:=h2.1;have n2:=h2.2.1;have hp:=h.2.2 b;have hq:=h2.2.2 b;have hK1:=hK.later (AE w (γ #[ι κ o,.iface p.ty p.pay,.iface q.ty q.pay] 283));go_enter Tryz.func234,Tryz.ntmps234
 go_wp2_with (first | (have _h:=hb;refine(hq _ (hK1.later hb)).mono ?_;rintro e w2 ⟨rfl,hb2⟩) | (refine(hp _ hK1).mono ?_;rintro e w1 ⟨rfl,hb⟩;obtain⟨d0,d1,d2⟩:=DQ hb;rcases ho:p.ok))
 ·
  go_ret
  exact⟨AM (by simp [ho]),B0 hb⟩
 ·
  go_ret
  exact⟨AM (by simp [ho]),B0 (AA hb hb2)⟩
theorem NZ(b:Nat)(t:Tr)(w:ο)(h:t.fit)(hK:KwAt w b):XR μ t.fn #[t.pay,.map (ς b)] w λe w'=>e=ρ (β t.ok)/\υ w.heap.size w w':=h.2.2 b w hK
