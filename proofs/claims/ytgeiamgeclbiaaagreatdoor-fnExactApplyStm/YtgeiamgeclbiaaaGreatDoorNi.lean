import Derived.Test.YtgeiamgeclbiaaaGreatDoorNb
import Derived.Test.YtgeiamgeclbiaaaGreatDoorShelf
import Derived.Test.YtgeiamgeclbiaaaGreatDoorCards
import Derived.Test.YtgeiamgeclbiaaaGreatDoorTie
import Derived.OpenShut
import Derived.ShutString
import Derived.Deep.DeepHandedRow
import Derived.Deep.DeepWitnessRowRef
import Derived.Deep.DeepLaidRun
import Derived.Lib.LaidTab
import Derived.Lib.SpaceR
import Derived.Stop.LaidErr
import Derived.OpenVars
import Derived.Deep.AppendLies
import Derived.Deep.RegionHeld3
namespace Go.Proofs.YtgeiamgeclbiaaaGreatDoor
open Go.RowKit
def SpT(w:World):Prop:=∀ c:Nat,c<256->w.cell? ⟨0,c,none⟩=some (.int .u8 (if Lib.isSp (UInt8.ofNat c) then 1 else 0))
theorem SpT.later{w w':World}(h:SpT w)(hb:Below w.heap.size w w'):SpT w':=fun c hc=>keepB hb (h c hc)
theorem fieldsAt(s:ByteArray)(w:World)(hs:s.size<4294967281)(hascii:∀ (j:Nat) b,s.data.toList[j]?=some b->b.toNat<128)(hT:SpT w):Calls Tryz.prog 115 #[.string s] w fun e w'=>
 e=.returned (.slice (some ⟨w.heap.size,0,none⟩) (Lib.fields s.data.toList).length (Lib.fields s.data.toList).length)/\w'=w.alloc (.cells ((Lib.fields s.data.toList).map fun l=>Value.string ⟨l.toArray⟩).toArray 9):=
 Any.strings_Fields_core Tryz.lays157 (by kernel_rfl) s w hs hascii hT
end Go.Proofs.YtgeiamgeclbiaaaGreatDoor
namespace Go.Proofs.YtgeiamgeclbiaaaGreatDoor
open Go.ChangeShapes Go.WideShapes Go.ChangeAt Go.RowKit
theorem lawOwn:ownKnob Tryz.prog.godebug=none:=by kernel_rfl
theorem lawLaidOut:laidOutB Tryz.prog=true:=by kernel_rfl
theorem gSp:Tryz.prog.globalNamed "strings.asciiSpace"=some 0:=by kernel_rfl
theorem gSpType:(Tryz.prog.globals[0]?).map (·.type)=some 190:=by kernel_rfl
theorem laid_sp:(Rows.laid_strings_asciiSpace:DataW Unit)=Lib.tabData .u8 Lib.asciiSpaceTab:=by kernel_rfl
theorem spt_of{W:World}(h:laidMetH Tryz.prog [("unicode.White_Space",Rows.laid_unicode_White_Space),("strings.asciiSpace",Rows.laid_strings_asciiSpace)] W):SpT W:=by
 have h1:laidMet Tryz.prog [("unicode.White_Space",Rows.laid_unicode_White_Space),("strings.asciiSpace",Rows.laid_strings_asciiSpace)] W:=h;have h2:=h1.tail;rw [laid_sp] at h2;have htab:=Lib.tabIs_of_head gSp gSpType Tryz.underlying190 Tryz.underlying5 (by kernel_rfl) (by kernel_rfl) h2;intro c hc;rw [htab.cell gSp c (by rw [Lib.asciiSpaceTab_length];exact hc),Lib.asciiSpaceTab_at c hc]
end Go.Proofs.YtgeiamgeclbiaaaGreatDoor
namespace Go.Proofs.YtgeiamgeclbiaaaGreatDoor
open Go.RowKit Go.Maps Go.WideMaps
set_option maxRecDepth 20000
set_option maxHeartbeats 4000000
theorem lawS:Keyed Tryz.prog 9:=string_keyed Tryz.underlying9
theorem zeroU(w:World):(zeroValue 157).run Tryz.prog w=.ok (.agg #[]) w:=by kernel_rfl
def litS(s:ByteArray):Lit:=.string s.data.toList
def KwAt(w:World)(b:Nat):Prop:=w.ownsMap Tryz.prog 9 (unitElem (H:=Unit)) b 17 (setOf (.agg []) (kws.map litS))
theorem KwAt.later{w w':World}{b:Nat}(h:KwAt w b)(hb:Below w.heap.size w w'):KwAt w' b:=by
 have hl:=h.lt;obtain⟨es,clock,h1,F,hs,hD⟩:=h;exact⟨es,clock,(hb.block _ hl).trans h1,F,hs,hD⟩
theorem has_kws(L:List ByteArray)(s:ByteArray):Maps.has (setOf (H:=Unit) (.agg []) (L.map litS)) (litS s)=isIn s L:=by
 rw [has_setOf _ _ _ (by intro x hx;obtain⟨y,_,rfl⟩:=List.mem_map.1 hx;exact trivial)];unfold isIn;rw [List.any_map];congr 1
 funext x
 show (x.data.toList == s.data.toList)=_
 rw [←eqS,ByteArray.toList_eq,ByteArray.toList_eq]
theorem fieldsKw(s:ByteArray)(w:World)(hs:s.size<4294967281)(hascii:(s.data.toList.all fun b=>decide (b.toNat<128))=true)(hf:Lib.fields s.data.toList=kws.map fun x=>x.data.toList)(hT:SpT w):Calls Tryz.prog 115 #[.string s] w fun e w'=>
 e=.returned (.slice (some ⟨w.heap.size,0,none⟩) 17 17)/\w'=w.alloc (.cells (kws.map Value.string).toArray 9):=
 (fieldsAt s w hs (fun j b hb=>by simpa using List.all_eq_true.1 hascii b (List.mem_of_getElem? hb)) hT).mono fun e w' ⟨he,hw⟩=>by
  rw [hf] at he hw;exact⟨by rw [he,List.length_map];rfl,by rw [hw,List.map_map];rfl⟩
theorem kws_short(k:Nat)(hk:k<kws.length):kws[k].size<=10:=by
 have h:kws.all (fun x=>decide (x.size<=10))=true:=by kernel_rfl
 simpa using List.all_eq_true.1 h kws[k] (List.getElem_mem _)
theorem iKeywords(w:World)(hT:SpT w):Calls Tryz.prog 74 #[] w fun e w'=>∃ b,e=.returned (.map (some b))/\KwAt w' b/\Below w.heap.size w w':=by
 have hmm:=@run_makeMap Tryz.prog;go_enter Tryz.func74,Tryz.ntmps74
 go_wp2_with (go_at_call 115;refine(fieldsKw _ _ (by decide) (by kernel_rfl) (by kernel_rfl) (hT.later (bal _ _))).mono ?_;rintro e w1 ⟨rfl,rfl⟩)
 have e17:kws.length=17:=rfl;go_loopw [3,7] (fun _ i wr=>∃ k:Nat,k<=17/\i=.int .i64 k/\wr.ownsMap Tryz.prog 9 (unitElem (H:=Unit)) w.heap.size k (setOf (.agg []) ((kws.take k).map litS))/\Below w.heap.size w wr/\SL wr (some ⟨w.heap.size+1,0,none⟩) kws) (fun _ i _=>17 - (intOf i).toNat)
 case atStart=>
  refine⟨0,by omega,rfl,?_,bstep (bal _ _) (bal _ _),?_⟩
  · exact(World.ownsMap_made w Tryz.prog 9 (unitElem (H:=Unit))).alloc _
  · have h:=sl_new (w.alloc (.map #[] 0)) kws 9;simpa using h
 case round=>
  obtain⟨k,hk,rfl,hown,hb,hS⟩:=hrel;by_cases hlt:k<17
  ·
   obtain⟨b,off,e,hc⟩:=hS k (by omega);obtain⟨rfl,rfl⟩:w.heap.size+1=b/\0=off:=by simpa using e
   have hsh:=kws_short k (by omega);rw [Nat.zero_add] at hc;have hkey:keyOf Tryz.prog 9 (.string kws[k])=some (litS kws[k]):=keyOf_string_mk Tryz.underlying9 (by unfold maxLen;omega);go_wp2_with (first | (at_mapUpdate;refine wpList_mapUpdate_own _ rfl _ _ _ 120 rfl 9 157 lawS Tryz.underlying120 (unitElem (H:=Unit)) w.heap.size k _ rfl hown (by unfold maxLen;omega) _ _ _ rfl rfl hkey _ [] unitElem_mk ?_;intro w1 hown1 hgrow1) | go_in)
   go_roundw
   case rel=>
    refine⟨k+1,by omega,by go_num,?_,hb.grown hgrow1 hb.size (fun j hj=>by cases hj;exact Nat.le_refl _),fun j hj=>?_⟩
    · rw [List.take_succ_eq_append_getElem (by omega),List.map_append,List.map_cons,List.map_nil,setOf_snoc];exact hown1
    ·
     obtain⟨b',off',e',hc'⟩:=hS j hj;obtain⟨rfl,rfl⟩:w.heap.size+1=b'/\0=off':=by simpa using e'
     refine⟨_,_,rfl,?_⟩;exact hgrow1.cell hc' (by simp)
   case measure=>simp [intOf];omega
  ·
   obtain rfl:k=17:=by omega
   go_wp2;go_ret
   exact⟨_,rfl,hown,hb⟩
theorem iName(b:Nat)(s:ByteArray)(w:World)(hK:KwAt w b)(hs:s.size<=1048576):Calls Tryz.prog 78 #[.map (some b),.string s] w fun e w'=>e=.returned (.bool (okName s))/\Below w.heap.size w w':=by
 have hkey:keyOf Tryz.prog 9 (.string s)=some (litS s):=keyOf_string_mk Tryz.underlying9 (by unfold maxLen;omega);have hh:=has_kws kws s;go_enter Tryz.func78,Tryz.ntmps78
 go_wp2_with (first | (at_lookup;refine wpList_lookup_own_unit _ rfl _ _ 120 rfl 9 157 lawS Tryz.underlying120 (zeroU _) b 17 _ rfl hK _ _ rfl hkey ?_;rw [hh]) | (go_at_call 123;refine(iWord s _ hs).mono ?_;rintro e w1 ⟨rfl,rfl⟩;rcases ho:okWord s) | go_in)
 all_goals
  go_ret
  exact⟨retB (by simp [okName,ho]),bal _ _⟩
set_option maxRecDepth 20000
set_option maxHeartbeats 2000000
theorem isE(s:ByteArray):s.toList.isEmpty=decide (s.size=0):=by
 rw [Bool.eq_iff_iff,List.isEmpty_iff,empty_iff];simp
def okValue(t m:Int)(s:ByteArray):Bool:=(t == 1 && isNum m && decide (s.size=0)) || (t == 2 && m == 0 && okText s)
def okItem(o m:Int)(s:ByteArray):Bool:=(o == 1 && isNum m && decide (s.size=0)) || (o == 2 && m == 0 && okText s) || (o == 3 && m == 0 && okName s) || (btw o 4 13 && m == 0 && decide (s.size=0))
def okCol(s:ByteArray)(t:Int):Bool:=okName s && isTyp t
theorem kept2{w w2:World}{x y:Value}{t:TypeId}(hb:Below (w.alloc (.cells #[x,y] t)).heap.size (w.alloc (.cells #[x,y] t)) w2) :
 w2.cell? ⟨w.heap.size,0,none⟩=some x/\w2.cell? ⟨w.heap.size,1,none⟩=some y:=by
 have h0:(w.alloc (.cells #[x,y] t)).cell? ⟨w.heap.size,0,none⟩=some x:=(cell_of_row _ _ 0 _ _ _ (heap_alloc_new w _)).trans rfl;have h1:(w.alloc (.cells #[x,y] t)).cell? ⟨w.heap.size,1,none⟩=some y:=(cell_of_row _ _ 1 _ _ _ (heap_alloc_new w _)).trans rfl;exact⟨keepB hb h0,keepB hb h1⟩
theorem kept3{w w2:World}{x y z:Value}{t:TypeId}(hb:Below (w.alloc (.cells #[x,y,z] t)).heap.size (w.alloc (.cells #[x,y,z] t)) w2) :
 w2.cell? ⟨w.heap.size,0,none⟩=some x/\w2.cell? ⟨w.heap.size,1,none⟩=some y/\w2.cell? ⟨w.heap.size,2,none⟩=some z:=by
 have h0:(w.alloc (.cells #[x,y,z] t)).cell? ⟨w.heap.size,0,none⟩=some x:=(cell_of_row _ _ 0 _ _ _ (heap_alloc_new w _)).trans rfl;have h1:(w.alloc (.cells #[x,y,z] t)).cell? ⟨w.heap.size,1,none⟩=some y:=(cell_of_row _ _ 1 _ _ _ (heap_alloc_new w _)).trans rfl;have h2:(w.alloc (.cells #[x,y,z] t)).cell? ⟨w.heap.size,2,none⟩=some z:=(cell_of_row _ _ 2 _ _ _ (heap_alloc_new w _)).trans rfl;exact⟨keepB hb h0,keepB hb h1,keepB hb h2⟩
theorem bj{w wr w2:World}{o:Obj}(hb:Below w.heap.size w wr)(h:Below (wr.alloc o).heap.size (wr.alloc o) w2):Below w.heap.size w w2:=hb.trans ((bal2 h).mono hb.size)
theorem sValue(t m:Int)(s:ByteArray)(w:World)(hs:s.size<=1048576):Calls Tryz.prog 100 #[.agg #[.int .i64 t,.int .i64 m,.string s]] w fun e w'=>e=.returned (.bool (okValue t m s))/\Below w.heap.size w w':=by
 have hE:=isE s;go_enter Tryz.func100,Tryz.ntmps100
 by_cases h1:t=1
 ·
  subst h1;go_wp2_with (first | (go_at_call 143;refine(sNumber _ _).mono ?_;rintro e w1 ⟨rfl,rfl⟩;rcases hn:isNum m) | (go_at_call 144;refine(sText s _ hs).mono ?_;rintro e w1 ⟨rfl,rfl⟩;rcases ht:okText s))
  all_goals
   go_ret
   exact⟨retB (by simp [okValue, *]),bal _ _⟩
 ·
  have h1':(t == 1)=false:=by simp [h1]
  by_cases h2:t=2
  ·
   subst h2;go_wp2_with (first | (go_at_call 143;refine(sNumber _ _).mono ?_;rintro e w1 ⟨rfl,rfl⟩;rcases hn:isNum m) | (go_at_call 144;refine(sText s _ hs).mono ?_;rintro e w1 ⟨rfl,rfl⟩;rcases ht:okText s))
   all_goals
    go_ret
    exact⟨retB (by simp [okValue, *]),bal _ _⟩
  ·
   have h2':(t == 2)=false:=by simp [h2]
   go_wp2;go_ret
   exact⟨retB (by simp [okValue, *]),bal _ _⟩
theorem iValue(t m:Int)(s:ByteArray)(w:World)(hs:s.size<=1048576):Calls Tryz.prog 83 #[.agg #[.int .i64 t,.int .i64 m,.string s]] w fun e w'=>e=.returned (.bool (okValue t m s))/\Below w.heap.size w w':=by
 have hE:=isE s;go_enter Tryz.func83,Tryz.ntmps83
 by_cases h1:t=1
 ·
  subst h1;go_wp2_with (first | (go_at_call 124;refine(iNumber _ _).mono ?_;rintro e w1 ⟨rfl,rfl⟩;rcases hn:isNum m) | (go_at_call 125;refine(iText s _ hs).mono ?_;rintro e w1 ⟨rfl,rfl⟩;rcases ht:okText s))
  all_goals
   go_ret
   exact⟨retB (by simp [okValue, *]),bal _ _⟩
 ·
  have h1':(t == 1)=false:=by simp [h1]
  by_cases h2:t=2
  ·
   subst h2;go_wp2_with (first | (go_at_call 124;refine(iNumber _ _).mono ?_;rintro e w1 ⟨rfl,rfl⟩;rcases hn:isNum m) | (go_at_call 125;refine(iText s _ hs).mono ?_;rintro e w1 ⟨rfl,rfl⟩;rcases ht:okText s))
   all_goals
    go_ret
    exact⟨retB (by simp [okValue, *]),bal _ _⟩
  ·
   have h2':(t == 2)=false:=by simp [h2]
   go_wp2;go_ret
   exact⟨retB (by simp [okValue, *]),bal _ _⟩
theorem iColumn(b:Nat)(s:ByteArray)(t:Int)(w:World)(hK:KwAt w b)(hs:s.size<=1048576):Calls Tryz.prog 81 #[.map (some b),.agg #[.string s,.int .i64 t]] w fun e w'=>e=.returned (.bool (okCol s t))/\Below w.heap.size w w':=by
 have hK1:=hK.later (bal w (.cells #[.string s,.int .i64 t] 113));go_enter Tryz.func81,Tryz.ntmps81
 go_wp2_with (go_at_call 78;refine(iName b s _ hK1 hs).mono ?_;rintro e w1 ⟨rfl,hb⟩;obtain⟨d0,d1⟩:=kept2 hb;rcases hn:okName s)
 all_goals
  go_ret
  exact⟨retB (by simp [okCol,isTyp, *]),bal2 hb⟩
theorem sItem(o m:Int)(s:ByteArray)(w:World)(hs:s.size<=1048576):Calls Tryz.prog 145 #[.agg #[.int .i64 o,.int .i64 m,.string s]] w fun e w'=>e=.returned (.bool (okItem o m s))/\Below w.heap.size w w':=by
 have hE:=isE s;go_enter Tryz.func145,Tryz.ntmps145
 by_cases h1:o=1
 ·
  subst h1;have hbt:btw 1 4 13=false:=rfl;go_wp2_with (go_at_call 143;refine(sNumber _ _).mono ?_;rintro e w1 ⟨rfl,rfl⟩;rcases hn:isNum m)
  all_goals
   go_ret
   exact⟨retB (by simp [okItem, *]),bal _ _⟩
 have h1':(o == 1)=false:=by simp [h1]
 by_cases h2:o=2
 ·
  subst h2;have hbt:btw 2 4 13=false:=rfl;go_wp2_with (go_at_call 144;refine(sText s _ hs).mono ?_;rintro e w1 ⟨rfl,rfl⟩;rcases ht:okText s)
  all_goals
   go_ret
   exact⟨retB (by simp [okItem, *]),bal _ _⟩
 have h2':(o == 2)=false:=by simp [h2]
 by_cases h3:o=3
 ·
  subst h3;have hbt:btw 3 4 13=false:=rfl;go_wp2_with (go_at_call 98;refine(sName s _ hs).mono ?_;rintro e w1 ⟨rfl,hb2⟩;rcases ht:okName s)
  all_goals
   go_ret
   first
    | exact⟨retB (by simp [okItem, *]),bal _ _⟩
    | exact⟨retB (by simp [okItem, *]),bal2 hb2⟩
 have h3':(o == 3)=false:=by simp [h3]
 go_wp2_with (go_at_call 137;refine(sBetween _ 4 13 _).mono ?_;rintro e w1 ⟨rfl,rfl⟩;rcases hbt:btw o 4 13)
 all_goals
  go_ret
  exact⟨retB (by simp [okItem, *]),bal _ _⟩
set_option maxRecDepth 20000
set_option maxHeartbeats 4000000
structure Itm where
 o:Int
 m:Int
 s:ByteArray
def IL(w:World)(a:Option Addr)(n:Nat)(I:Nat->Itm):Prop:=
 ∀ k,k<n->∃ b off,a=some ⟨b,off,none⟩/\w.cell? ⟨b,off+k * 3,none⟩=some (.int .i64 (I k).o)/\w.cell? ⟨b,off+k * 3+1,none⟩=some (.int .i64 (I k).m)/\w.cell? ⟨b,off+k * 3+2,none⟩=some (.string (I k).s)/\(I k).s.size<=1048576
theorem IL.later{w w':World}{a:Option Addr}{n:Nat}{I:Nat->Itm}(h:IL w a n I)(hb:Below w.heap.size w w'):IL w' a n I:=fun k hk=>by
 obtain⟨b,off,e,h0,h1,h2,hs⟩:=h k hk;exact⟨b,off,e,keepB hb h0,keepB hb h1,keepB hb h2,hs⟩
def ex(I:Nat->Itm):Nat->Option Int
 | 0=>some 0
 | k+1=>match ex I k with
  | none=>none
  | some d=>if okItem (I k).o (I k).m (I k).s=true/\arity (I k).o<=d then some (d+(1 - arity (I k).o)) else none
theorem ex_none{I:Nat->Itm}{k:Nat}(h:ex I k=none):∀ n,k<=n->ex I n=none:=by
 intro n hn;induction n with
 | zero=>
  obtain rfl:k=0:=by omega
  exact h
 | succ n ih=>
  by_cases e:k=n+1
  · subst e;exact h
  · rw [ex,ih (by omega)]
theorem arity_le(o:Int):0<=arity o/\arity o<=2:=by unfold arity;(repeat' split) <;> omega
theorem ex_le{I:Nat->Itm}:∀ {k:Nat} {d:Int},ex I k=some d->0<=d/\d<=k:=by
 intro k;induction k with
 | zero=>intro d h;simp [ex] at h;omega
 | succ k ih=>
  intro d h;have ha:=arity_le (I k).o;rw [ex] at h;split at h
  · cases h
  ·
   rename_i x hx
   have:=ih hx;split at h
   ·
    rename_i hc
    cases h
    omega
   · cases h
def okExp(I:Nat->Itm)(n:Nat):Bool:=btw n 1 100 && decide (ex I n=some 1)
def okWhere(I:Nat->Itm)(n:Nat):Bool:=decide (n=0) || okExp I n
theorem sExp(a:Option Addr)(n c:Nat)(I:Nat->Itm)(w:World)(h:IL w a n I)(hn:n<=1048576):Calls Tryz.prog 101 #[.slice a n c] w fun e w'=>e=.returned (.bool (okExp I n))/\Below w.heap.size w w':=by
 have hb0:=Below.refl w.heap.size w;go_enter Tryz.func101,Tryz.ntmps101
 go_wp2_with (go_at_call 137;refine(sBetween _ 1 100 _).mono ?_;rintro e w1 ⟨rfl,rfl⟩;rcases hbt:btw n 1 100)
 ·
  go_ret
  exact⟨retB (by simp [okExp,hbt]),hb0⟩
 ·
  go_loopw [3,5,12] (fun d _ i wr=>∃ (k:Nat) (x:Int),k<=n/\i=.int .i64 k/\d=.int .i64 x/\ex I k=some x/\Below w1.heap.size w1 wr) (fun _ _ i _=>n - (intOf i).toNat)
  case atStart=>exact⟨0,0,by omega,rfl,rfl,rfl,hb0⟩
  case round=>
   obtain⟨k,x,hk,rfl,rfl,hx,hb⟩:=hrel;have hxl:=ex_le hx;by_cases hlt:k<n
   ·
    have hst:ex I (k+1)=if okItem (I k).o (I k).m (I k).s=true/\arity (I k).o<=x then some (x+(1 - arity (I k).o)) else none:=by rw [ex,hx]
    obtain⟨b,off,rfl,c0,c1,c2,hs⟩:=h.later hb k hlt;have ha:=arity_le (I k).o;go_wp2_with (first | (go_at_call 145;refine(sItem _ _ _ _ hs).mono ?_;rintro e w2 ⟨rfl,hb2⟩;obtain⟨d0,d1,d2⟩:=kept3 hb2;replace hb2:=bj hb hb2;rcases ho:okItem (I k).o (I k).m (I k).s) | (go_at_call 66;refine(sArity (I k).o _).mono ?_;rintro e w3 ⟨rfl,rfl⟩))
    ·
     go_ret
     exact⟨retB (by simp [okExp,ex_none (hst.trans (by simp [ho])) n (by omega)]),hb2⟩
    ·
     go_ret
     exact⟨retB (by simp [okExp,ex_none (hst.trans (by rw [if_neg];omega)) n (by omega)]),hb2⟩
    ·
     go_roundw
     case rel=>exact⟨k+1,x+(1 - arity (I k).o),by omega,by go_num,rfl,hst.trans (by rw [if_pos];exact⟨ho,by omega⟩),hb2⟩
     case measure=>simp [intOf];omega
   ·
    obtain rfl:k=n:=by omega
    go_wp2;go_ret
    exact⟨retB (Bool.eq_iff_iff.2 (by simp [okExp,hbt,hx])),hb⟩
theorem sWhere(a:Option Addr)(n c:Nat)(I:Nat->Itm)(w:World)(h:IL w a n I)(hn:n<=1048576):Calls Tryz.prog 102 #[.slice a n c] w fun e w'=>e=.returned (.bool (okWhere I n))/\Below w.heap.size w w':=by
 have hb0:=Below.refl w.heap.size w;go_enter Tryz.func102,Tryz.ntmps102
 by_cases h0:n=0
 ·
  subst h0;go_wp2;go_ret
  exact⟨retB (by simp [okWhere]),hb0⟩
 ·
  have h0':((n:Int) == 0)=false:=by simp;omega
  go_wp2_with (go_at_call 101;refine(sExp a n c I _ h hn).mono ?_;rintro e w1 ⟨rfl,hb1⟩)
  go_ret
  exact⟨retB (by simp [okWhere,h0]),hb1⟩
set_option maxRecDepth 20000
set_option maxHeartbeats 2000000
def isSign(o:Int):Bool:=btw o 4 10 || o == 12
theorem iSign(o:Int)(w:World):Calls Tryz.prog 184 #[.int .i64 o] w fun e w'=>∃ s:ByteArray,e=.returned (.string s)/\(s.size=0↔isSign o=false)/\w'=w:=by
 go_enter Tryz.func184,Tryz.ntmps184
 go_wp2;all_goals
  go_ret
  exact⟨_,rfl,by
   (try simp only [beq_iff_eq,beq_eq_false_iff_ne,ne_eq] at *)
   first
    | (subst_vars;decide)
    | (
     have h1:(⟨#[]⟩:ByteArray).size=0:=rfl;simp [isSign,btw,h1] <;> omega),rfl⟩
theorem retI{a b:Int}(h:a=b):Ending.returned (.int .i64 a)=.returned (.int .i64 b):=by rw [h]
def opn(o m:Int)(s:ByteArray):Int:=
 if (o=1/\s.size=0)∨(o=2/\m=0)∨(o=3/\m=0) then 0 else if (o=11∨o=13)/\m=0/\s.size=0 then 1 else if m=0/\s.size=0/\isSign o=true then 2 else -1
theorem iOperands(o m:Int)(s:ByteArray)(w:World):Calls Tryz.prog 158 #[.agg #[.int .i64 o,.int .i64 m,.string s]] w fun e w'=>e=.returned (.int .i64 (opn o m s))/\Below w.heap.size w w':=by
 have hE:=isE s;have h0:ByteArray.empty.size=0:=rfl;have hz:s.size=0↔s=ByteArray.empty:=by
  constructor
  · intro h;exact bytes_inj2 (((empty_iff s).2 h).trans ((empty_iff _).2 rfl).symm)
  · rintro rfl;rfl
 by_cases hs:s=ByteArray.empty
 ·
  by_cases hm:m=0
  ·
   subst hs hm;go_enter Tryz.func158,Tryz.ntmps158
   go_wp2_with (go_at_call 184;refine(iSign o _).mono ?_;rintro e w1 ⟨sg,rfl,hsg,rfl⟩;rw [←empty_iff] at hsg;by_cases hq:sg.toList=[])
   all_goals
    go_ret
    exact⟨retI (by simp_all [opn]),bal _ _⟩
  ·
   subst hs;have hm':(m == 0)=false:=by simp [hm]
   go_enter Tryz.func158,Tryz.ntmps158
   go_wp2;all_goals
    go_ret
    exact⟨retI (by simp_all [opn]),bal _ _⟩
 ·
  go_enter Tryz.func158,Tryz.ntmps158
  go_wp2;all_goals
   go_ret
   exact⟨retI (by simp_all [opn]),bal _ _⟩
set_option maxRecDepth 20000
set_option maxHeartbeats 2000000
structure Tr where
  ty : TypeId
  fn : Nat
  pay : Value
  ok : Bool
def Tr.num (n : Int) : Tr := ⟨224, 248, .int .i64 n, isNum n⟩
def Tr.txt (s : ByteArray) : Tr := ⟨225, 249, .string s, okText s⟩
def Tr.col (s : ByteArray) : Tr := ⟨226, 250, .string s, okName s⟩
def Tr.one (o : Int) (t : Tr) : Tr := ⟨228, 251, .agg #[.int .i64 o, .iface t.ty t.pay], t.ok⟩
def Tr.two (o : Int) (a b : Tr) : Tr := ⟨230, 252, .agg #[.int .i64 o, .iface a.ty a.pay, .iface b.ty b.pay], a.ok && b.ok⟩
def Tr.fit (t : Tr) : Prop := (∀ w, (method 404 t.ty t.pay "loop.example/s02884/impl.fits").run Tryz.prog w = .ok (t.fn, t.pay) w) ∧ (∀ args w, (callFunc t.fn args).run Tryz.prog w = .ok (.enter t.fn args) w) ∧ ∀ b w, KwAt w b → Calls Tryz.prog t.fn #[t.pay, .map (some b)] w fun e w' => e = .returned (.bool t.ok) ∧ Below w.heap.size w w'
theorem fit_num (n : Int) : (Tr.num n).fit := by
  refine ⟨fun w => by kernel_rfl, fun args w => by kernel_rfl, fun b w _ => ?_⟩
  show Calls Tryz.prog 248 #[.int .i64 n, .map (some b)] w fun e w' => e = .returned (.bool (isNum n)) ∧ Below w.heap.size w w'
  go_enter Tryz.func248,Tryz.ntmps248
  go_wp2_with (go_at_call 124; refine (iNumber _ _).mono ?_; rintro e w1 ⟨rfl, rfl⟩)
  go_ret
  exact ⟨rfl, Below.refl _ _⟩
theorem fit_txt (s : ByteArray) (hs : s.size ≤ 1048576) : (Tr.txt s).fit := by
  refine ⟨fun w => by kernel_rfl, fun args w => by kernel_rfl, fun b w _ => ?_⟩
  show Calls Tryz.prog 249 #[.string s, .map (some b)] w fun e w' => e = .returned (.bool (okText s)) ∧ Below w.heap.size w w'
  go_enter Tryz.func249,Tryz.ntmps249
  go_wp2_with (go_at_call 125; refine (iText _ _ hs).mono ?_; rintro e w1 ⟨rfl, rfl⟩)
  go_ret
  exact ⟨rfl, Below.refl _ _⟩
theorem fit_col (s : ByteArray) (hs : s.size ≤ 1048576) : (Tr.col s).fit := by
  refine ⟨fun w => by kernel_rfl, fun args w => by kernel_rfl, fun b w hK => ?_⟩
  show Calls Tryz.prog 250 #[.string s, .map (some b)] w fun e w' => e = .returned (.bool (okName s)) ∧ Below w.heap.size w w'
  go_enter Tryz.func250,Tryz.ntmps250
  go_wp2_with (go_at_call 78; refine (iName b _ _ hK hs).mono ?_; rintro e w1 ⟨rfl, hb⟩)
  go_ret
  exact ⟨rfl, hb⟩
theorem fit_one (o : Int) {p : Tr} (h : p.fit) : (Tr.one o p).fit := by
  refine ⟨fun w => by kernel_rfl, fun args w => by kernel_rfl, fun b w hK => ?_⟩
  show Calls Tryz.prog 251 #[.agg #[.int .i64 o, .iface p.ty p.pay], .map (some b)] w fun e w' => e = .returned (.bool p.ok) ∧ Below w.heap.size w w'
  have m1 := h.1
  have n1 := h.2.1
  have hp := h.2.2 b
  have hK1 := hK.later (bal w (.cells #[.int .i64 o, .iface p.ty p.pay] 228))
  go_enter Tryz.func251,Tryz.ntmps251
  go_wp2_with (refine (hp _ hK1).mono ?_; rintro e w1 ⟨rfl, hb⟩)
  go_ret
  exact ⟨rfl, bal2 hb⟩
theorem fit_two (o : Int) {p q : Tr} (h : p.fit) (h2 : q.fit) : (Tr.two o p q).fit := by
  refine ⟨fun w => by kernel_rfl, fun args w => by kernel_rfl, fun b w hK => ?_⟩
  show Calls Tryz.prog 252 #[.agg #[.int .i64 o, .iface p.ty p.pay, .iface q.ty q.pay], .map (some b)] w fun e w' => e = .returned (.bool (p.ok && q.ok)) ∧ Below w.heap.size w w'
  have m1 := h.1
  have n1 := h.2.1
  have m2 := h2.1
  have n2 := h2.2.1
  have hp := h.2.2 b
  have hq := h2.2.2 b
  have hK1 := hK.later (bal w (.cells #[.int .i64 o, .iface p.ty p.pay, .iface q.ty q.pay] 230))
  go_enter Tryz.func252,Tryz.ntmps252
  go_wp2_with (first | (have _h := hb; refine (hq _ (hK1.later hb)).mono ?_; rintro e w2 ⟨rfl, hb2⟩) | (refine (hp _ hK1).mono ?_; rintro e w1 ⟨rfl, hb⟩; obtain ⟨d0, d1, d2⟩ := kept3 hb; rcases ho : p.ok))
  · go_ret
    exact ⟨retB (by simp [ho]), bal2 hb⟩
  · go_ret
    exact ⟨retB (by simp [ho]), bal2 (bstep hb hb2)⟩
theorem fits_any (b : Nat) (t : Tr) (w : World) (h : t.fit) (hK : KwAt w b) : Calls Tryz.prog t.fn #[t.pay, .map (some b)] w fun e w' => e = .returned (.bool t.ok) ∧ Below w.heap.size w w' := h.2.2 b w hK
set_option maxRecDepth 20000
set_option maxHeartbeats 4000000
def NL(w:World)(a:Option Addr)(n:Nat)(S:Nat->Tr):Prop:=
 ∀ k,k<n->∃ b off,a=some ⟨b,off,none⟩/\w.cell? ⟨b,off+k,none⟩=some (.iface (S k).ty (S k).pay)
theorem NL.later{w w':World}{a:Option Addr}{n:Nat}{S:Nat->Tr}(h:NL w a n S)(hb:Below w.heap.size w w'):NL w' a n S:=fun k hk=>by
 obtain⟨b,off,e,h0⟩:=h k hk;exact⟨b,off,e,keepB hb h0⟩
def mkN(o m:Int)(s:ByteArray)(S:Nat->Tr):Tr:=
 if o=1 then .num m else if o=2 then .txt s else if o=3 then .col s else if o=11∨o=13 then .one o (S 0) else .two o (S 0) (S 1)
theorem bdr(w:World)(n:Nat):Below w.heap.size w (w.drewN n):=⟨rfl,rfl,rfl,Nat.le_refl _,fun _ _=>rfl⟩
theorem iMakeNode(o m:Int)(s:ByteArray)(a:Option Addr)(n c:Nat)(S:Nat->Tr)(w:World)(h:NL w a n S)(hn:opn o m s=n)(hcap:n<=1048576):Calls Tryz.prog 159 #[.agg #[.int .i64 o,.int .i64 m,.string s],.slice a n c] w fun e w'=>e=.returned (.iface (mkN o m s S).ty (mkN o m s S).pay)/\Below w.heap.size w w':=by
 have hb0:=bal w (.cells #[.int .i64 o,.int .i64 m,.string s] 108);go_enter Tryz.func159,Tryz.ntmps159
 by_cases h1:o=1
 ·
  subst h1;go_wp2;go_ret
  exact⟨rfl,hb0⟩
 have h1':(o == 1)=false:=by simp [h1]
 by_cases h2:o=2
 ·
  subst h2;go_wp2;go_ret
  exact⟨rfl,hb0⟩
 have h2':(o == 2)=false:=by simp [h2]
 by_cases h3:o=3
 ·
  subst h3;go_wp2;go_ret
  exact⟨rfl,hb0⟩
 have h3':(o == 3)=false:=by simp [h3]
 by_cases h4:o=11∨o=13
 ·
  have e1:n=1:=by
   have:opn o m s=1∨opn o m s<0∨opn o m s=2:=by unfold opn;(repeat' split) <;> omega
   have h5:opn o m s≠2:=by
    unfold opn;have:isSign o=false:=by rcases h4 with rfl | rfl <;> rfl
    simp [this]
    (repeat' split) <;> omega
   omega
  subst e1;obtain⟨b,off,rfl,c0⟩:=h.later hb0 0 (by omega);rw [Nat.add_zero] at c0;have hm:mkN o m s S=.one o (S 0):=by simp [mkN,h1,h2,h3,h4]
  rw [hm];rcases h4 with rfl | rfl
  all_goals
   go_wp2;go_quiet (fail)
   go_wp2;go_ret
   exact⟨rfl,bstep hb0 (bdr _ _)⟩
 ·
  have h11:(o == 11)=false:=by simp;omega
  have h13:(o == 13)=false:=by simp;omega
  have e2:n=2:=by
   have:opn o m s=2∨opn o m s<0:=by
    unfold opn;rw [if_neg (by omega),if_neg (by omega)];split <;> omega
   omega
  subst e2;obtain⟨b,off,rfl,c0⟩:=h.later hb0 0 (by omega);rw [Nat.add_zero] at c0;obtain⟨b',off',e,c1⟩:=h.later hb0 1 (by omega);obtain⟨rfl,rfl⟩:b=b'/\off=off':=by simpa using e
  have hm:mkN o m s S=.two o (S 0) (S 1):=by simp [mkN,h1,h2,h3,h4]
  rw [hm];go_wp2;go_quiet (fail)
  go_wp2;go_ret
  exact⟨rfl,bstep hb0 (bdr _ _)⟩
def leafOK(i:Itm):Bool:=(!(i.o == 1) || isNum i.m) && (!(i.o == 2) || okText i.s) && (!(i.o == 3) || okName i.s)
theorem item_split(i:Itm):okItem i.o i.m i.s=(decide (0<=opn i.o i.m i.s) && leafOK i):=by
 obtain⟨o,m,s⟩:=i;rw [Bool.eq_iff_iff];simp only [okItem,leafOK,opn,isSign,btw]
 by_cases h1:o=1
 · subst h1;by_cases hs:s.size=0 <;> simp [hs]
 by_cases h2:o=2
 · subst h2;by_cases hm:m=0 <;> simp [hm]
 by_cases h3:o=3
 · subst h3;by_cases hm:m=0 <;> simp [hm]
 by_cases hm:m=0
 ·
  by_cases hs:s.size=0
  ·
   simp [h1,h2,h3,hm,hs]
   (repeat' split) <;> omega
  · simp [h1,h2,h3,hm,hs]
 · simp [h1,h2,h3,hm]
theorem sign_no{o:Int}(h:isSign o=true):o≠1/\o≠2/\o≠3/\o≠11/\o≠13/\3<o:=by
 simp [isSign,btw] at h
 omega
theorem opn_cases{i:Itm}{q:Int}(h:opn i.o i.m i.s=q)(h0:0<=q):(q=0/\(i.o=1∨i.o=2∨i.o=3))∨(q=1/\(i.o=11∨i.o=13))∨(q=2/\isSign i.o=true):=by
 unfold opn at h;split at h
 · left;omega
 ·
  split at h
  · right;left;omega
  ·
   split at h
   ·
    rename_i h3
    exact Or.inr (Or.inr ⟨h.symm,h3.2.2⟩)
   · omega
theorem opn_arity(i:Itm)(h:0<=opn i.o i.m i.s):opn i.o i.m i.s=arity i.o:=by
 unfold arity;rcases opn_cases rfl h with ⟨e,h1⟩ | ⟨e,h1⟩ | ⟨e,h1⟩
 · rw [e,if_pos (by omega)]
 · rw [e,if_neg (by omega),if_pos h1]
 · have:=sign_no h1;rw [e,if_neg (by omega),if_neg (by omega)]
def sh(I:Nat->Itm):Nat->Option Int
 | 0=>some 0
 | k+1=>match sh I k with
  | none=>none
  | some d=>if 0<=opn (I k).o (I k).m (I k).s/\opn (I k).o (I k).m (I k).s<=d then some (d+(1 - opn (I k).o (I k).m (I k).s)) else none
def lf(I:Nat->Itm):Nat->Bool
 | 0=>true
 | k+1=>lf I k && leafOK (I k)
theorem ex_sh(I:Nat->Itm):∀ k,ex I k=if lf I k=true then sh I k else none
 | 0=>rfl
 | k+1=>by
  rw [ex,ex_sh I k,lf,sh];by_cases hl:lf I k=true
  ·
   rw [if_pos hl,hl];cases hs:sh I k with
   | none=>simp
   | some d=>
    simp only [item_split (I k)]
    by_cases h0:0<=opn (I k).o (I k).m (I k).s
    · rw [←opn_arity (I k) h0];by_cases hf:leafOK (I k)=true <;> simp [h0,hf]
    · simp [h0]
  · simp [hl]
theorem sh_none{I:Nat->Itm}{k:Nat}(h:sh I k=none):∀ n,k<=n->sh I n=none:=by
 intro n hn;induction n with
 | zero=>
  obtain rfl:k=0:=by omega
  exact h
 | succ n ih=>
  by_cases e:k=n+1
  · subst e;exact h
  · rw [sh,ih (by omega)]
theorem exp_no{I:Nat->Itm}{n:Nat}(h:sh I n≠some 1):okExp I n=false:=by
 simp only [okExp,ex_sh]
 by_cases hl:lf I n=true <;> simp [hl,h]
theorem exp_yes{I:Nat->Itm}{n:Nat}(h:sh I n=some 1)(hn:n<=100):okExp I n=lf I n:=by
 have h1:1<=n:=by
  by_cases e:n=0
  · subst e;simp [sh] at h
  · omega
 simp only [okExp,ex_sh,btw]
 by_cases hl:lf I n=true
 · simp [hl,h];omega
 · simp [hl]
theorem exp_long{I:Nat->Itm}{n:Nat}(hn:100<n):okExp I n=false:=by
 simp only [okExp,btw]
 simp
 omega
def Tr.val(t:Tr):Value:=.iface t.ty t.pay
theorem mkN_ok(i:Itm)(S:Nat->Tr)(q:Nat)(hq:opn i.o i.m i.s=q):(mkN i.o i.m i.s S).ok=(leafOK i && ((List.range q).all fun j=>(S j).ok)):= by
  obtain ⟨o, m, s⟩ := i
  rcases opn_cases hq (by omega) with ⟨e, h1⟩ | ⟨e, h1⟩ | ⟨e, h1⟩
  · obtain rfl : q = 0 := by omega
    rcases h1 with h1 | h1 | h1 <;> (dsimp only at h1; subst h1; simp [mkN, leafOK, Tr.num, Tr.txt, Tr.col])
  · obtain rfl : q = 1 := by omega
    rcases h1 with h1 | h1 <;> (dsimp only at h1; subst h1; simp [mkN, leafOK, Tr.one, List.range_succ])
  · obtain rfl : q = 2 := by omega
    dsimp only at h1
    have := sign_no h1
    simp [mkN, leafOK, Tr.two, List.range_succ, this]
theorem mkN_fit(i:Itm)(S:Nat->Tr)(q:Nat)(hq:opn i.o i.m i.s=q)(hs:i.s.size<=1048576)(h:∀ j,j<q->(S j).fit):(mkN i.o i.m i.s S).fit:= by
  obtain ⟨o, m, s⟩ := i
  rcases opn_cases hq (by omega) with ⟨e, h1⟩ | ⟨e, h1⟩ | ⟨e, h1⟩
  · rcases h1 with h1 | h1 | h1 <;> (dsimp only at h1; subst h1)
    · exact (show mkN 1 m s S = .num m by simp [mkN]) ▸ fit_num m
    · exact (show mkN 2 m s S = .txt s by simp [mkN]) ▸ fit_txt s hs
    · exact (show mkN 3 m s S = .col s by simp [mkN]) ▸ fit_col s hs
  · obtain rfl : q = 1 := by omega
    rcases h1 with h1 | h1 <;> (dsimp only at h1; subst h1)
    · exact (show mkN 11 m s S = .one 11 (S 0) by simp [mkN]) ▸ fit_one 11 (h 0 (by omega))
    · exact (show mkN 13 m s S = .one 13 (S 0) by simp [mkN]) ▸ fit_one 13 (h 0 (by omega))
  · obtain rfl : q = 2 := by omega
    dsimp only at h1
    have h2 := sign_no h1
    exact (show mkN o m s S = .two o (S 0) (S 1) by simp [mkN, h2]) ▸ fit_two o (h 0 (by omega)) (h 1 (by omega))
end Go.Proofs.YtgeiamgeclbiaaaGreatDoor
