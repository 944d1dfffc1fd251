import Derived.Test.YtgeiamgeclbiaaaGreatDoorProg
import Derived.Deep.RegionHeld3
import Derived.WalkKit
import Derived.ProofKit
import Derived.Laws.CopyOwn
import Derived.Deep.QuietTactic
import Derived.BigQuiet
import Derived.Maps.OwnSet
import Derived.Lib.Fields
namespace Go.Proofs.YtgeiamgeclbiaaaGreatDoor
open Go.RowKit
set_option maxRecDepth 20000
set_option maxHeartbeats 2000000
theorem zS:(∀ (a:Act) (t:Tmp) (v:Value),a.put (some t) v={ a with tmps:=a.tmps.setIfInBounds t v })/\(∀ (a:Act) (v:Value),a.put none v=a)/\(∀ (α:Type) (l:List α) (i:Nat) (x:α),l.toArray.setIfInBounds i x=(l.set i x).toArray)/\(∀ (α:Type) (y x:α) (l:List α),(y :: l).set 0 x=x :: l)/\∀ (α:Type) (y x:α) (l:List α) (n:Nat),(y :: l).set (n+1) x=y :: l.set n x:=
 ⟨fun _ _ _=>rfl,fun _ _=>rfl,fun _ _ _ _=>List.setIfInBounds_toArray ..,fun _ _ _ _=>rfl,fun _ _ _ _ _=>rfl⟩
theorem tk{P:Program}{ops:Array Oper}{Q:Exit->Act->World->Prop}{md:Region.Mode}{S:World->Prop}(i:Nat)(oi:Oper){v:Value}{fuel:Nat}{listed:Array Bool}{a:Act}{w:World}
 (hy:∀ w,S w->(execOp a.eval oi).run P w=.ok (.value v) w) (hS:S w) (h:wpAnyH P md ops Q S fuel (listed.setIfInBounds i true) (a.put oi.dst v) w)
 (hi:ops[i]?=some oi:=by rfl) (hw:Region.wanted oi (yielded ops a.tmps)=true:=by rfl)
 (hs:Region.noSelect ops=true:=by kernel_rfl) (hf:Region.free md ops listed i=true:=by kernel_rfl) (hr:(Region.ready md ops listed).contains i=true:=by kernel_rfl)
 (hQ:∀ c a w,Q (.panic c) (a.put oi.dst v) w->Q (.panic c) a w:=by exact fun _ _ _ h=>h):wpAnyH P md ops Q S (fuel+1) listed a w:=
 wpAnyH_take hi hs hf hr hQ (Or.inl ⟨hw,hy⟩) hS h
theorem tko{P:Program}{ops:Array Oper}{Q:Exit->Act->World->Prop}{md:Region.Mode}{S:World->Prop}(i:Nat)(oi:Oper){fuel:Nat}{listed:Array Bool}{a:Act}{w:World}
 (hS:S w) (h:wpAnyH P md ops Q S fuel (listed.setIfInBounds i true) (a.put oi.dst undef) w)
 (hi:ops[i]?=some oi:=by rfl) (hw:Region.wanted oi (yielded ops a.tmps)=false:=by rfl)
 (hs:Region.noSelect ops=true:=by kernel_rfl) (hf:Region.free md ops listed i=true:=by kernel_rfl) (hr:(Region.ready md ops listed).contains i=true:=by kernel_rfl)
 (hQ:∀ c a w,Q (.panic c) (a.put oi.dst undef) w->Q (.panic c) a w:=by exact fun _ _ _ h=>h):wpAnyH P md ops Q S (fuel+1) listed a w:=
 wpAnyH_take hi hs hf hr hQ (Or.inr ⟨hw,rfl⟩) hS h
theorem rd{P:Program}{ops:Array Oper}{Q:Exit->Act->World->Prop}{md:Region.Mode}{S:World->Prop}(i:Nat)(o:Oper){fuel:Nat}{listed:Array Bool}{a:Act}{w:World}
 (h:∀ K':Act->World->Prop,Shut (∀ a w,S w->(S w->wpAnyH P md ops Q S fuel (listed.setIfInBounds i true) a w)->K' a w)->if Region.wanted o (yielded ops a.tmps)=true then Oper.wp P o a w K' Q else K' (a.put o.dst undef) w)
 (ho:ops[i]?=some o:=by rfl) (hr:Region.ready md ops listed=[i]:=by kernel_rfl):wpAnyH P md ops Q S (fuel+1) listed a w:=wpAnyH_ready hr (by simp) (AllReadyH.cons ho h AllReadyH.nil)
theorem takeF{P:Program}{ops:Array Oper}{Q:Exit->Act->World->Prop}{md:Region.Mode}{S:World->Prop}{i:Nat}{oi:Oper}{v:Value}{fuel:Nat}{listed:Array Bool}{a:Act}{w:World}(hi:ops[i]?=some oi)
 (hy:Region.wanted oi (yielded ops a.tmps)=true/\∀ w,S w->(execOp a.eval oi).run P w=.ok (.value v) w) (hS:S w)
 (h:wpAnyH P md ops Q S fuel (listed.setIfInBounds i true) (a.put oi.dst v) w)
 (hs:Region.noSelect ops=true:=by kernel_rfl) (hf:Region.free md ops listed i=true:=by kernel_rfl) (hr:(Region.ready md ops listed).contains i=true:=by kernel_rfl)
 (hQ:∀ c a w,Q (.panic c) (a.put oi.dst v) w->Q (.panic c) a w:=by exact fun _ _ _ h=>h):wpAnyH P md ops Q S (fuel+1) listed a w:=
 wpAnyH_take hi hs hf hr hQ (Or.inl hy) hS h
theorem retB{b b':Bool}(h:b=b'):Ending.returned (.bool b)=.returned (.bool b'):=by rw [h]
def isLet(c:Int):Bool:=decide (97<=c) && decide (c<=122)
def isDig(c:Int):Bool:=decide (48<=c) && decide (c<=57)
def isInn(c:Int):Bool:=isLet c || isDig c || c == 95
def btw(x lo hi:Int):Bool:=decide (lo<=x) && decide (x<=hi)
def isNum(n:Int):Bool:=n != -9223372036854775808
def isTyp(n:Int):Bool:=n == 1 || n == 2
def arity(n:Int):Int:=if n<=3 then 0 else if n=11∨n=13 then 1 else 2
def allB(p:Int->Bool)(s:ByteArray):Bool:=s.data.toList.all fun c=>p c.toNat
theorem allB_true{p:Int->Bool}{s:ByteArray}(h:∀ j (hj:j<s.size),p s[j].toNat=true):allB p s=true:=by
 unfold allB;rw [List.all_eq_true];intro c hc;obtain⟨j,hj,rfl⟩:=List.getElem_of_mem hc;exact h j (by simpa using hj)
theorem allB_false{p:Int->Bool}{s:ByteArray}{j:Nat}(hj:j<s.size)(h:p s[j].toNat=false):allB p s=false:=by
 unfold allB;rw [List.all_eq_false];exact⟨s[j],List.getElem_mem (l:=s.data.toList) (n:=j) (by simpa using hj),by simp [h]⟩
def isTxt(c:Int):Bool:=btw c 32 126
def okText(s:ByteArray):Bool:=decide ((s.size:Int)<=200) && allB isTxt s
theorem sLetter(c:Int)(w:World):Calls Tryz.prog 139 #[.int .u8 c] w fun e w'=>e=.returned (.bool (isLet c))/\w'=w:=by
 go_enter Tryz.func139,Tryz.ntmps139
 go_wp2;all_goals
  go_ret
  exact⟨retB (by simp [isLet];omega),rfl⟩
theorem iLetter(c:Int)(w:World):Calls Tryz.prog 154 #[.int .u8 c] w fun e w'=>e=.returned (.bool (isLet c))/\w'=w:=by
 go_enter Tryz.func154,Tryz.ntmps154
 go_wp2;all_goals
  go_ret
  exact⟨retB (by simp [isLet];omega),rfl⟩
theorem iDigit(c:Int)(w:World):Calls Tryz.prog 183 #[.int .u8 c] w fun e w'=>e=.returned (.bool (isDig c))/\w'=w:=by
 go_enter Tryz.func183,Tryz.ntmps183
 go_wp2;all_goals
  go_ret
  exact⟨retB (by simp [isDig];omega),rfl⟩
theorem iTextByte(c:Int)(w:World):Calls Tryz.prog 157 #[.int .u8 c] w fun e w'=>e=.returned (.bool (isTxt c))/\w'=w:=by
 go_enter Tryz.func157,Tryz.ntmps157
 go_wp2;all_goals
  go_ret
  exact⟨retB (by simp [isTxt,btw];omega),rfl⟩
theorem sBetween(x lo hi:Int)(w:World):Calls Tryz.prog 137 #[.int .i64 x,.int .i64 lo,.int .i64 hi] w fun e w'=>e=.returned (.bool (btw x lo hi))/\w'=w:=by
 go_enter Tryz.func137,Tryz.ntmps137
 go_wp2;all_goals
  go_ret
  exact⟨retB (by simp [btw];omega),rfl⟩
theorem sInner(c:Int)(w:World):Calls Tryz.prog 142 #[.int .u8 c] w fun e w'=>e=.returned (.bool (isInn c))/\w'=w:=by
 go_enter Tryz.func142,Tryz.ntmps142
 go_wp2_with (go_at_call 139;refine(sLetter c _).mono ?_;rintro e w1 ⟨rfl,rfl⟩;rcases hb:isLet c)
 all_goals
  go_ret
  exact⟨retB (Bool.eq_iff_iff.2 (by simp [isInn,isDig,hb] <;> omega)),rfl⟩
theorem iWordByte(c:Int)(w:World):Calls Tryz.prog 156 #[.int .u8 c] w fun e w'=>e=.returned (.bool (isInn c))/\w'=w:=by
 go_enter Tryz.func156,Tryz.ntmps156
 go_wp2_with (first | (go_at_call 154;refine(iLetter c _).mono ?_;rintro e w1 ⟨rfl,rfl⟩;rcases hb:isLet c) | (go_at_call 183;refine(iDigit c _).mono ?_;rintro e w1 ⟨rfl,rfl⟩;rcases hd:isDig c))
 all_goals
  go_ret
  exact⟨retB (by simp [isInn, *]),rfl⟩
theorem sNumber(n:Int)(w:World):Calls Tryz.prog 143 #[.int .i64 n] w fun e w'=>e=.returned (.bool (isNum n))/\w'=w:=by
 go_enter Tryz.func143,Tryz.ntmps143
 go_wp2;go_ret
 exact⟨retB (by simp [isNum]),rfl⟩
theorem iNumber(n:Int)(w:World):Calls Tryz.prog 124 #[.int .i64 n] w fun e w'=>e=.returned (.bool (isNum n))/\w'=w:=by
 go_enter Tryz.func124,Tryz.ntmps124
 go_wp2;go_ret
 exact⟨retB (by simp [isNum]),rfl⟩
theorem sType(n:Int)(w:World):Calls Tryz.prog 99 #[.int .i64 n] w fun e w'=>e=.returned (.bool (isTyp n))/\w'=w:=by
 go_enter Tryz.func99,Tryz.ntmps99
 go_wp2;all_goals
  go_ret
  exact⟨retB (by simp [isTyp, *]),rfl⟩
theorem sArity(n:Int)(w:World):Calls Tryz.prog 66 #[.int .i64 n] w fun e w'=>e=.returned (.int .i64 (arity n))/\w'=w:=by
 go_enter Tryz.func66,Tryz.ntmps66
 go_wp2;all_goals
  go_ret
  exact⟨by
   show Ending.returned (.int .i64 _)=_
   unfold arity;try simp only [beq_iff_eq,beq_eq_false_iff_ne,ne_eq] at *
   congr 2
   (repeat' split) <;> omega,rfl⟩
theorem wr8(c:UInt8):wrap64 (c.toNat:Int)=c.toNat:=by
 have:=c.toNat_lt;unfold wrap64;omega
theorem sText(s:ByteArray)(w:World)(hs:s.size<=1048576):Calls Tryz.prog 144 #[.string s] w fun e w'=>e=.returned (.bool (okText s))/\w'=w:=by
 go_enter Tryz.func144,Tryz.ntmps144
 go_wp2
 ·
  go_ret
  exact⟨retB (by simp [okText];omega),rfl⟩
 ·
  go_loop [3] (fun i=>∃ k:Nat,k<=s.size/\i=.int .i64 k/\∀ j (h:j<s.size),j<k->btw s[j].toNat 32 126=true) (fun i=>s.size - (intOf i).toNat)
  case atStart=>exact⟨0,by omega,rfl,fun j _ h=>by omega⟩
  case round=>
   obtain⟨k,hk,rfl,hall⟩:=hrel;by_cases hlt:k<s.size
   ·
    go_wp2_with (go_at_call 137;refine(sBetween _ 32 126 _).mono ?_;rw [wr8];rintro e w1 ⟨rfl,rfl⟩;rcases hb:btw s[k].toNat 32 126)
    ·
     go_ret
     exact⟨retB (by simp [okText,allB_false (p:=isTxt) hlt hb]),rfl⟩
    ·
     go_round
     case rel=>exact⟨k+1,by omega,by go_num,fun j h hj=>by
      by_cases e:j=k
      · subst e;exact hb
      · exact hall j h (by omega)⟩
     case measure=>simp [intOf];omega
   ·
    go_wp2;go_ret
    exact⟨retB (by simp [okText,allB_true (p:=isTxt) (fun j h=>hall j h (by omega))] <;> omega),rfl⟩
theorem begText(s:ByteArray)(w:World)(hs:s.size<=1048576):Calls Tryz.prog 155 #[.string s,.func (.func 157) #[] #[]] w fun e w'=>∃ n:Nat,e=.returned (.int .i64 n)/\w'=w/\(n=s.size↔allB isTxt s=true):=by
 go_enter Tryz.func155,Tryz.ntmps155
 go_wp2;go_loop [5] (fun i=>∃ k:Nat,k<=s.size/\i=.int .i64 k/\∀ j (h:j<s.size),j<k->isTxt s[j].toNat=true) (fun i=>s.size - (intOf i).toNat)
 case atStart=>exact⟨0,by omega,rfl,fun j _ h=>by omega⟩
 case round=>
  obtain⟨k,hk,rfl,hall⟩:=hrel;by_cases hlt:k<s.size
  ·
   go_wp2_with (go_at_call 157;refine(iTextByte _ _).mono ?_;rintro e w1 ⟨rfl,rfl⟩;rcases hb:isTxt s[k].toNat)
   ·
    go_ret
    exact⟨k,rfl,rfl,by rw [allB_false (p:=isTxt) hlt hb];simp;omega⟩
   ·
    go_round
    case rel=>exact⟨k+1,by omega,by go_num,fun j h hj=>by
     by_cases e:j=k
     · subst e;exact hb
     · exact hall j h (by omega)⟩
    case measure=>simp [intOf];omega
  ·
   go_wp2;go_ret
   exact⟨k,rfl,rfl,by rw [allB_true (p:=isTxt) (fun j h=>hall j h (by omega))];simp;omega⟩
theorem begWord(s:ByteArray)(w:World)(hs:s.size<=1048576):Calls Tryz.prog 155 #[.string s,.func (.func 156) #[] #[]] w fun e w'=>∃ n:Nat,e=.returned (.int .i64 n)/\w'=w/\(n=s.size↔allB isInn s=true):=by
 go_enter Tryz.func155,Tryz.ntmps155
 go_wp2;go_loop [5] (fun i=>∃ k:Nat,k<=s.size/\i=.int .i64 k/\∀ j (h:j<s.size),j<k->isInn s[j].toNat=true) (fun i=>s.size - (intOf i).toNat)
 case atStart=>exact⟨0,by omega,rfl,fun j _ h=>by omega⟩
 case round=>
  obtain⟨k,hk,rfl,hall⟩:=hrel;by_cases hlt:k<s.size
  ·
   go_wp2_with (go_at_call 156;refine(iWordByte _ _).mono ?_;rintro e w1 ⟨rfl,rfl⟩;rcases hb:isInn s[k].toNat)
   ·
    go_ret
    exact⟨k,rfl,rfl,by rw [allB_false (p:=isInn) hlt hb];simp;omega⟩
   ·
    go_round
    case rel=>exact⟨k+1,by omega,by go_num,fun j h hj=>by
     by_cases e:j=k
     · subst e;exact hb
     · exact hall j h (by omega)⟩
    case measure=>simp [intOf];omega
  ·
   go_wp2;go_ret
   exact⟨k,rfl,rfl,by rw [allB_true (p:=isInn) (fun j h=>hall j h (by omega))];simp;omega⟩
theorem bytes_inj2{a b:ByteArray}(h:a.toList=b.toList):a=b:=by
 rw [ByteArray.toList_eq,ByteArray.toList_eq] at h;obtain⟨⟨a⟩⟩:=a;obtain⟨⟨b⟩⟩:=b;simp at h
 rw [h]
theorem eqS(a b:ByteArray):(a.toList == b.toList)=decide (a=b):=by
 by_cases h:a=b
 · subst h;simp
 ·
  simp [h]
  exact fun e=>h (bytes_inj2 e)
theorem empty_iff(s:ByteArray):s.toList=[]↔s.size=0:=by
 rw [ByteArray.toList_eq];constructor
 · intro h;have:=congrArg List.length h;simpa using this
 · intro h;exact List.length_eq_zero_iff.1 (by simpa using h)
theorem iText(s:ByteArray)(w:World)(hs:s.size<=1048576):Calls Tryz.prog 125 #[.string s] w fun e w'=>e=.returned (.bool (okText s))/\w'=w:=by
 go_enter Tryz.func125,Tryz.ntmps125
 go_wp2_with (go_at_call 155;refine(begText s _ hs).mono ?_;rintro e w1 ⟨n,rfl,rfl,hn⟩)
 all_goals
  go_ret
  refine⟨retB (Bool.eq_iff_iff.2 ?_),rfl⟩;first
   | (simp [okText,←hn] <;> omega)
   | (simp [okText] <;> omega)
def head0(s:ByteArray):Int:=if h:0<s.size then s[0].toNat else 0
theorem head0_eq{s:ByteArray}(h:0<s.size):head0 s=s[0].toNat:=by simp [head0,h]
def okWord(s:ByteArray):Bool:=decide (0<s.size) && decide ((s.size:Int)<=30) && isLet (head0 s) && allB isInn s
theorem iWord(s:ByteArray)(w:World)(hs:s.size<=1048576):Calls Tryz.prog 123 #[.string s] w fun e w'=>e=.returned (.bool (okWord s))/\w'=w:=by
 go_enter Tryz.func123,Tryz.ntmps123
 by_cases h0:0<s.size
 ·
  have h0':¬s.toList=[]:=fun h=>by have:=(empty_iff s).1 h;omega
  go_wp2_with (first | (go_at_call 154;refine(iLetter _ _).mono ?_;rintro e w1 ⟨rfl,rfl⟩;rcases hb:isLet s[0].toNat) | (go_at_call 155;refine(begWord s _ hs).mono ?_;rintro e w1 ⟨n,rfl,rfl,hn⟩))
  all_goals
   go_ret
   refine⟨retB (Bool.eq_iff_iff.2 ?_),rfl⟩;first
    | (rcases ha:allB isInn s <;> simp [ha] at hn <;> simp [okWord,head0_eq h0,hb,ha,h0'] <;> omega)
    | (simp [okWord,head0_eq h0,hb] <;> omega)
    | (simp [okWord] <;> omega)
 ·
  have h0':s.toList=[]:=(empty_iff s).2 (by omega);go_wp2;go_ret
  exact⟨retB (by simp [okWord,h0]),rfl⟩
end Go.Proofs.YtgeiamgeclbiaaaGreatDoor
namespace Go.Proofs.YtgeiamgeclbiaaaGreatDoor
open Go.RowKit Go.Maps
set_option maxRecDepth 20000
set_option maxHeartbeats 4000000
def kws:List ByteArray:=[⟨#[99,114,101,97,116,101]⟩,⟨#[116,97,98,108,101]⟩,⟨#[105,110,115,101,114,116]⟩,⟨#[105,110,116,111]⟩,⟨#[118,97,108,117,101,115]⟩,⟨#[117,112,100,97,116,101]⟩,⟨#[115,101,116]⟩,⟨#[100,101,108,101,116,101]⟩,⟨#[102,114,111,109]⟩,⟨#[119,104,101,114,101]⟩,⟨#[115,101,108,101,99,116]⟩,⟨#[97,110,100]⟩,⟨#[111,114]⟩,⟨#[110,111,116]⟩,⟨#[108,101,110]⟩,⟨#[105,110,116]⟩,⟨#[116,101,120,116]⟩]
def isIn(s:ByteArray)(L:List ByteArray):Bool:=L.any fun x=>decide (x=s)
theorem isIn_true{s:ByteArray}{L:List ByteArray}{k:Nat}(hk:k<L.length)(h:L[k]=s):isIn s L=true:=by
 unfold isIn;rw [List.any_eq_true];exact⟨L[k],List.getElem_mem _,by simp [h]⟩
theorem isIn_false{s:ByteArray}{L:List ByteArray}(h:∀ k (hk:k<L.length),¬L[k]=s):isIn s L=false:=by
 unfold isIn;rw [List.any_eq_false];intro x hx;obtain⟨j,hj,rfl⟩:=List.getElem_of_mem hx;simp [h j hj]
def okName(s:ByteArray):Bool:=okWord s && !isIn s kws
theorem bal(w:World)(o:Obj):Below w.heap.size w (w.alloc o):=(Below.refl _ _).alloc (Nat.le_refl _) _
theorem bal2{w w1:World}{o:Obj}(h:Below (w.alloc o).heap.size (w.alloc o) w1):Below w.heap.size w w1:=(bal w o).trans (h.mono (bal w o).size)
theorem bstep{a b c:World}(h:Below a.heap.size a b)(k:Below b.heap.size b c):Below a.heap.size a c:=h.trans (k.mono h.size)
theorem keepB{w w':World}{p:Addr}{v:Value}(hb:Below w.heap.size w w')(hc:w.cell? p=some v):w'.cell? p=some v:=(hb.cell (World.block_lt_of_cell? w _ hc)).trans hc
def SL(w:World)(a:Option Addr)(L:List ByteArray):Prop:=∀ k (h:k<L.length),∃ b off,a=some ⟨b,off,none⟩/\w.cell? ⟨b,off+k,none⟩=some (.string L[k])
theorem sl_new(w:World)(L:List ByteArray)(t:TypeId):SL (w.alloc (.cells (L.map Value.string).toArray t)) (some ⟨w.heap.size,0,none⟩) L:=fun k hk=>
 ⟨w.heap.size,0,rfl,by rw [Nat.zero_add];exact(cell_of_row _ _ k _ _ _ (heap_alloc_new w _)).trans (by simp [hk])⟩
theorem sKeywords(w:World):Calls Tryz.prog 141 #[] w fun e w'=>∃ a,e=.returned (.slice a 17 17)/\SL w' a kws/\Below w.heap.size w w':=by
 go_enter Tryz.func141,Tryz.ntmps141
 go_wp2;go_ret
 exact⟨_,rfl,sl_new w kws _,(Below.refl _ _).alloc (Nat.le_refl _) _⟩
theorem sHas(a:Option Addr)(n c:Nat)(L:List ByteArray)(hn:L.length=n)(s:ByteArray)(w:World)(h:SL w a L)(hn2:n<=1048576):Calls Tryz.prog 140 #[.slice a n c,.string s] w fun e w'=>e=.returned (.bool (isIn s L))/\w'=w:=by
 go_enter Tryz.func140,Tryz.ntmps140
 go_wp2;go_loop [6,9] (fun _ i=>∃ k:Nat,k<=n/\i=.int .i64 k/\∀ j (hj:j<L.length),j<k->¬L[j]=s) (fun _ i=>n - (intOf i).toNat)
 case atStart=>exact⟨0,by omega,rfl,fun j _ h=>by omega⟩
 case round=>
  obtain⟨k,hk,rfl,hall⟩:=hrel;by_cases hlt:k<n
  ·
   obtain⟨b,off,rfl,hc⟩:=h k (by omega);by_cases he:L[k]=s
   ·
    have he2:(L[k].toList == s.toList)=true:=by rw [eqS];simp [he]
    go_wp2;go_ret
    exact⟨retB (isIn_true (by omega) he).symm,rfl⟩
   ·
    have he2:(L[k].toList == s.toList)=false:=by rw [eqS];simp [he]
    go_wp2;go_round
    case rel=>exact⟨k+1,by omega,by go_num,fun j hj hjk=>by
     by_cases e:j=k
     · subst e;exact he
     · exact hall j hj (by omega)⟩
    case measure=>simp [intOf];omega
  ·
   go_wp2;go_ret
   exact⟨retB (isIn_false fun j hj=>hall j hj (by omega)).symm,rfl⟩
theorem sName(s:ByteArray)(w:World)(hs:s.size<=1048576):Calls Tryz.prog 98 #[.string s] w fun e w'=>e=.returned (.bool (okName s))/\Below w.heap.size w w':=by
 have hb0:=Below.refl w.heap.size w;go_enter Tryz.func98,Tryz.ntmps98
 by_cases h0:0<s.size
 ·
  go_wp2_with (first | (go_at_call 137;refine(sBetween _ 1 30 _).mono ?_;rintro e w1 ⟨rfl,rfl⟩;rcases hbt:btw s.size 1 30) | (go_at_call 139;refine(sLetter _ _).mono ?_;rintro e w1 ⟨rfl,rfl⟩;rcases hl:isLet s[0].toNat) | (go_at_call 141;refine(sKeywords _).mono ?_;rintro e w1 ⟨a,rfl,hk1,hb2⟩) | (go_at_call 140;refine(sHas _ 17 17 kws rfl s _ hk1 (by omega)).mono ?_;rintro e w2 ⟨rfl,rfl⟩;rcases hm:isIn s kws))
  ·
   go_ret
   exact⟨retB (by simp [btw] at hbt;simp [okName,okWord,head0_eq h0] <;> omega),hb0⟩
  ·
   go_ret
   exact⟨retB (by simp [okName,okWord,head0_eq h0,hl]),hb0⟩
  ·
   go_loop [3] (fun i=>∃ k:Nat,k<=s.size/\i=.int .i64 k/\∀ j (h:j<s.size),j<k->isInn s[j].toNat=true) (fun i=>s.size - (intOf i).toNat)
   case atStart=>exact⟨0,by omega,rfl,fun j _ h=>by omega⟩
   case round=>
    obtain⟨k,hk,rfl,hall⟩:=hrel;by_cases hlt:k<s.size
    ·
     go_wp2_with (go_at_call 142;refine(sInner _ _).mono ?_;rintro e w1 ⟨rfl,rfl⟩;rcases hb:isInn s[k].toNat)
     ·
      go_ret
      exact⟨retB (by simp [okName,okWord,allB_false (p:=isInn) hlt hb]),hb2⟩
     ·
      go_round
      case rel=>exact⟨k+1,by omega,by go_num,fun j h hj=>by
       by_cases e:j=k
       · subst e;exact hb
       · exact hall j h (by omega)⟩
      case measure=>simp [intOf];omega
    ·
     go_wp2;go_ret
     exact⟨retB (by simp [btw] at hbt;simp [okName,okWord,allB_true (p:=isInn) (fun j h=>hall j h (by omega)),head0_eq h0,hl,h0,hm];omega),hb2⟩
  ·
   go_ret
   exact⟨retB (by simp [okName,hm]),hb2⟩
 ·
  have hbt:btw s.size 1 30=false:=by simp [btw];omega
  go_wp2_with (go_at_call 137;refine(sBetween _ 1 30 _).mono ?_;rintro e w1 ⟨rfl,rfl⟩;rw [hbt])
  go_ret
  exact⟨retB (by simp [okName,okWord,h0]),hb0⟩
end Go.Proofs.YtgeiamgeclbiaaaGreatDoor
