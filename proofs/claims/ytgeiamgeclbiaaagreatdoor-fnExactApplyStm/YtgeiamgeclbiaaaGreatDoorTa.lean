import Derived.Test.YtgeiamgeclbiaaaGreatDoorNlx
import Derived.Deep.OwnRows
import Derived.Deep.RegionWith
namespace Go.Proofs.YtgeiamgeclbiaaaGreatDoor
open Go.RowKit Go.Maps Go.WideMaps
set_option maxRecDepth 20000
set_option maxHeartbeats 4000000
theorem below3(w:World)(a b c:Obj):Below w.heap.size w (((w.alloc a).alloc b).alloc c):=bstep (bal w a) (bstep (bal _ b) (bal _ c))
theorem make_any{t e:TypeId}{z:Value}{size bytes:Nat}(ht:Tryz.prog.underlying t=some (.slice e))(hinfo:(Tryz.prog.info? e).map (fun i=>(i.zero,i.size,i.bytes))=some (some z,size,bytes))(n:Nat)(hn:n<=1048576)(hb:bytes<=1000)(w:World) :
 (Instr.makeSlice t (.int .i64 (n:Int)) (.int .i64 (n:Int))).run Tryz.prog w=.ok (.slice (some ⟨w.heap.size,0,none⟩) n n) (w.alloc (.cells (madeCells z.cells (n * size)) e)):=by
 obtain⟨i,hi,hzz⟩:=Option.map_eq_some_iff.1 hinfo;simp only [Prod.mk.injEq] at hzz
 obtain⟨hz,hs,hbb⟩:=hzz;have h1:((i.bytes:Int) * (n:Int))<=281474976710656:=by
  rw [hbb];have:bytes * n<=1000 * 1048576:=Nat.mul_le_mul hb hn;have h2:((bytes:Int) * (n:Int))=((bytes * n:Nat):Int):=by simp
  omega
 have:=run_make (P:=Tryz.prog) w t e i z ht hi hz .i64 .i64 n n (by omega) (by omega) h1 (by omega);rw [hs] at this;simpa using this
theorem made_size(z:Array Value)(n:Nat):(madeCells z n).size=n:=by simp [size_madeCells]
theorem there{A:Array Value}{k:Nat}(h:k<A.size):∃ v,A[k]?=some v:=⟨A[k],by simp [h]⟩
theorem setA{A:Array Value}{k i:Nat}{v u:Value}(h:A[i]?=some u)(hne:k≠i):(A.setIfInBounds k v)[i]?=some u:=by
 rw [Array.getElem?_setIfInBounds,if_neg hne];exact h
theorem setS{A:Array Value}{k:Nat}{v:Value}(h:k<A.size):(A.setIfInBounds k v)[k]?=some v:=by
 rw [Array.getElem?_setIfInBounds];simp [h]
theorem eqS_same(s:ByteArray):(s.toList == s.toList)=true:=by simp
def CX(w:World)(a:Option Addr)(n:Nat)(C:Nat->Clm):Prop:=
 n<=9223372036854775807/\∀ k,k<n->∃ b off,a=some ⟨b,off,none⟩/\w.cell? ⟨b,off+k * 2,none⟩=some (.string (C k).s)/\w.cell? ⟨b,off+k * 2+1,none⟩=some (.int .i64 (C k).t)/\(C k).s.size<=9223372036854775807
theorem CX.later{w w':World}{a:Option Addr}{n:Nat}{C:Nat->Clm}(h:CX w a n C)(hb:Below w.heap.size w w'):CX w' a n C:=⟨h.1,fun k hk=>by
 obtain⟨b,off,e,h0,h1,hs⟩:=h.2 k hk;exact⟨b,off,e,keepB hb h0,keepB hb h1,hs⟩⟩
theorem CX.small{w:World}{a:Option Addr}{n:Nat}{C:Nat->Clm}(h:CX w a n C)(hs:∀ k,k<n->(C k).s.size<=1048576):CL w a n C:=fun k hk=>by
 obtain⟨b,off,e,h0,h1,_⟩:=h.2 k hk;exact⟨b,off,e,h0,h1,hs k hk⟩
theorem szCol(s:ByteArray)(t:Int)(w:World)(L:Int)(h0:0<=L)(h1:L<=1048576)(hs:s.size<=9223372036854775807) :
 Calls Tryz.prog 63 #[.agg #[.string s,.int .i64 t],.int .i64 L] w fun e w'=>Below w.heap.size w w'/\∃ r:Int,e=.returned (.int .i64 r)/\r<=1048576/\(0<=r->s.size<=1048576):=by
 go_enter Tryz.func63,Tryz.ntmps63
 by_cases hneg:(0:Int)<=L - s.size
 ·
  go_wp2;go_ret
  exact⟨bal _ _,_,rfl,by omega,fun _=>by omega⟩
 ·
  go_wp2;go_ret
  exact⟨bal _ _,-1,rfl,by omega,fun hh=>by omega⟩
theorem szCols(a:Option Addr)(n c:Nat)(C:Nat->Clm)(w:World)(h:CX w a n C)(L:Int)(h0:0<=L)(h1:L<=1048576) :
 Calls Tryz.prog 22 #[.slice a n c,.int .i64 L] w fun e w'=>Below w.heap.size w w'/\∃ r:Int,e=.returned (.int .i64 r)/\r<=1048576/\(0<=r->n<=1048576/\∀ k,k<n->(C k).s.size<=1048576):=by
 have hn:=h.1;have hb0:=Below.refl w.heap.size w;by_cases hs:(n:Int)<=L
 ·
  go_enter Tryz.func22,Tryz.ntmps22
  go_wp2;go_loopw [1,5] (fun l i wr=>∃ k:Nat,∃ x:Int,k<=n/\i=.int .i64 k/\l=.int .i64 x/\0<=x/\x<=1048576/\(∀ j,j<k->(C j).s.size<=1048576)/\Below w.heap.size w wr) (fun _ i _=>n - (intOf i).toNat)
  case atStart=>exact⟨0,_,by omega,rfl,rfl,by omega,by omega,fun j hj=>by omega,hb0⟩
  case round=>
   obtain⟨k,x,hk,rfl,rfl,hx0,hx1,hall,hb⟩:=hrel;by_cases hlt:k<n
   ·
    obtain⟨b,off,rfl,c0,c1,hsz⟩:=(h.later hb).2 k hlt;go_wp2_with (go_at_call 63;refine(szCol _ _ _ _ hx0 hx1 hsz).mono ?_;rintro e w1 ⟨hb1,r,rfl,hr1,hr2⟩;replace hb1:=bstep hb hb1;by_cases hr:(0:Int)<=r)
    ·
     go_roundw
     case rel=>exact⟨k+1,r,by omega,by go_num,rfl,hr,hr1,fun j hj=>by
      by_cases e:j=k
      · subst e;exact hr2 hr
      · exact hall j (by omega),hb1⟩
     case measure=>simp [intOf];omega
    ·
     go_ret
     exact⟨hb1,-1,rfl,by omega,fun hh=>by omega⟩
   ·
    obtain rfl:k=n:=by omega
    go_wp2;go_ret
    exact⟨hb,_,rfl,hx1,fun _=>⟨by omega,hall⟩⟩
 ·
  go_enter Tryz.func22,Tryz.ntmps22
  go_wp2;go_ret
  exact⟨hb0,-1,rfl,by omega,fun hh=>by omega⟩
theorem toCol(s:ByteArray)(t:Int)(w:World):Calls Tryz.prog 70 #[.agg #[.string s,.int .i64 t]] w fun e w'=>e=.returned (.agg #[.string s,.int .i64 t])/\Below w.heap.size w w':=by
 go_enter Tryz.func70,Tryz.ntmps70
 go_wp2;exact bodyPost_ret (v:=.agg #[.string s,.int .i64 t]) (by simp [results,Tryz.results70,go_sem]) rfl ⟨rfl,below3 _ _ _ _⟩
theorem Tryz.infoCol:(Tryz.prog.info? 113).map (fun i=>(i.zero,i.size,i.bytes))=some (some (.agg #[.string ByteArray.empty,.int .i64 0]),2,24):=by kernel_rfl
theorem eqCol(s:ByteArray)(t:Int)(w:World):Calls Tryz.prog 94 #[.agg #[.string s,.int .i64 t],.agg #[.string s,.int .i64 t]] w fun e w'=>e=.returned (.bool true)/\Below w.heap.size w w':=by
 have hq:=eqS_same s;go_enter Tryz.func94,Tryz.ntmps94
 go_wp2;go_ret
 exact⟨rfl,bstep (bal _ _) (bal _ _)⟩
theorem eqCols(a a':Option Addr)(n c c':Nat)(C:Nat->Clm)(w:World)(h:CL w a n C)(h':CL w a' n C)(hn:n<=1048576) :
 Calls Tryz.prog 41 #[.slice a n c,.slice a' n c'] w fun e w'=>e=.returned (.bool true)/\Below w.heap.size w w':=by
 have hb0:=Below.refl w.heap.size w;go_enter Tryz.func41,Tryz.ntmps41
 go_wp2;go_loopw [5] (fun i wr=>∃ k:Nat,k<=n/\i=.int .i64 k/\Below w.heap.size w wr) (fun i _=>n - (intOf i).toNat)
 case atStart=>exact⟨0,by omega,rfl,hb0⟩
 case round=>
  obtain⟨k,hk,rfl,hb⟩:=hrel;by_cases hlt:k<n
  ·
   have hkk:(k:Int)<n:=by omega
   obtain⟨b,off,rfl,c0,c1,_⟩:=h.later hb k hlt;obtain⟨b',off',rfl,e0,e1,_⟩:=h'.later hb k hlt;go_wp2;go_region_with (go_at_call 94;refine(eqCol _ _ _).mono ?_;rintro e w1 ⟨rfl,hb1⟩)
   all_goals
    go_wp2;go_roundw
    case rel=>exact⟨k+1,by omega,by go_num,bstep hb (undrew hb1)⟩
    case measure=>simp [intOf];omega
  ·
   obtain rfl:k=n:=by omega
   go_wp2;go_ret
   exact⟨rfl,hb⟩
def IX(w:World)(a:Option Addr)(n:Nat)(I:Nat->Itm):Prop:=
 n<=9223372036854775807/\∀ k,k<n->∃ b off,a=some ⟨b,off,none⟩/\w.cell? ⟨b,off+k * 3,none⟩=some (.int .i64 (I k).o)/\w.cell? ⟨b,off+k * 3+1,none⟩=some (.int .i64 (I k).m)/\w.cell? ⟨b,off+k * 3+2,none⟩=some (.string (I k).s)/\(I k).s.size<=9223372036854775807
theorem IX.later{w w':World}{a:Option Addr}{n:Nat}{I:Nat->Itm}(h:IX w a n I)(hb:Below w.heap.size w w'):IX w' a n I:=⟨h.1,fun k hk=>by
 obtain⟨b,off,e,h0,h1,h2,hs⟩:=h.2 k hk;exact⟨b,off,e,keepB hb h0,keepB hb h1,keepB hb h2,hs⟩⟩
theorem IX.small{w:World}{a:Option Addr}{n:Nat}{I:Nat->Itm}(h:IX w a n I)(hs:∀ k,k<n->(I k).s.size<=1048576):IL w a n I:=fun k hk=>by
 obtain⟨b,off,e,h0,h1,h2,_⟩:=h.2 k hk;exact⟨b,off,e,h0,h1,h2,hs k hk⟩
theorem szVal(o:Int)(m:Int)(s:ByteArray)(w:World)(L:Int)(h0:0<=L)(h1:L<=1048576)(hs:s.size<=9223372036854775807) :
 Calls Tryz.prog 64 #[.agg #[.int .i64 o,.int .i64 m,.string s],.int .i64 L] w fun e w'=>Below w.heap.size w w'/\∃ r:Int,e=.returned (.int .i64 r)/\r<=1048576/\(0<=r->s.size<=1048576):=by
 go_enter Tryz.func64,Tryz.ntmps64
 by_cases hneg:(0:Int)<=L - s.size
 ·
  go_wp2;go_ret
  exact⟨bal _ _,_,rfl,by omega,fun _=>by omega⟩
 ·
  go_wp2;go_ret
  exact⟨bal _ _,-1,rfl,by omega,fun hh=>by omega⟩
theorem szVals(a:Option Addr)(n c:Nat)(I:Nat->Itm)(w:World)(h:IX w a n I)(L:Int)(h0:0<=L)(h1:L<=1048576) :
 Calls Tryz.prog 23 #[.slice a n c,.int .i64 L] w fun e w'=>Below w.heap.size w w'/\∃ r:Int,e=.returned (.int .i64 r)/\r<=1048576/\(0<=r->n<=1048576/\∀ k,k<n->(I k).s.size<=1048576):=by
 have hn:=h.1;have hb0:=Below.refl w.heap.size w;by_cases hs:(n:Int)<=L
 ·
  go_enter Tryz.func23,Tryz.ntmps23
  go_wp2;go_loopw [1,5] (fun l i wr=>∃ k:Nat,∃ x:Int,k<=n/\i=.int .i64 k/\l=.int .i64 x/\0<=x/\x<=1048576/\(∀ j,j<k->(I j).s.size<=1048576)/\Below w.heap.size w wr) (fun _ i _=>n - (intOf i).toNat)
  case atStart=>exact⟨0,_,by omega,rfl,rfl,by omega,by omega,fun j hj=>by omega,hb0⟩
  case round=>
   obtain⟨k,x,hk,rfl,rfl,hx0,hx1,hall,hb⟩:=hrel;by_cases hlt:k<n
   ·
    obtain⟨b,off,rfl,c0,c1,c2,hsz⟩:=(h.later hb).2 k hlt;go_wp2_with (go_at_call 64;refine(szVal _ _ _ _ _ hx0 hx1 hsz).mono ?_;rintro e w1 ⟨hb1,r,rfl,hr1,hr2⟩;replace hb1:=bstep hb hb1;by_cases hr:(0:Int)<=r)
    ·
     go_roundw
     case rel=>exact⟨k+1,r,by omega,by go_num,rfl,hr,hr1,fun j hj=>by
      by_cases e:j=k
      · subst e;exact hr2 hr
      · exact hall j (by omega),hb1⟩
     case measure=>simp [intOf];omega
    ·
     go_ret
     exact⟨hb1,-1,rfl,by omega,fun hh=>by omega⟩
   ·
    obtain rfl:k=n:=by omega
    go_wp2;go_ret
    exact⟨hb,_,rfl,hx1,fun _=>⟨by omega,hall⟩⟩
 ·
  go_enter Tryz.func23,Tryz.ntmps23
  go_wp2;go_ret
  exact⟨hb0,-1,rfl,by omega,fun hh=>by omega⟩
theorem toVal(o:Int)(m:Int)(s:ByteArray)(w:World):Calls Tryz.prog 71 #[.agg #[.int .i64 o,.int .i64 m,.string s]] w fun e w'=>e=.returned (.agg #[.int .i64 o,.int .i64 m,.string s])/\Below w.heap.size w w':=by
 go_enter Tryz.func71,Tryz.ntmps71
 go_wp2;exact bodyPost_ret (v:=.agg #[.int .i64 o,.int .i64 m,.string s]) (by simp [results,Tryz.results71,go_sem]) rfl ⟨rfl,below3 _ _ _ _⟩
theorem Tryz.infoVal:(Tryz.prog.info? 66).map (fun i=>(i.zero,i.size,i.bytes))=some (some (.agg #[.int .i64 0,.int .i64 0,.string ByteArray.empty]),3,32):=by kernel_rfl
theorem eqVal(o:Int)(m:Int)(s:ByteArray)(w:World):Calls Tryz.prog 92 #[.agg #[.int .i64 o,.int .i64 m,.string s],.agg #[.int .i64 o,.int .i64 m,.string s]] w fun e w'=>e=.returned (.bool true)/\Below w.heap.size w w':=by
 have hq:=eqS_same s;go_enter Tryz.func92,Tryz.ntmps92
 go_wp2;go_ret
 exact⟨rfl,bstep (bal _ _) (bal _ _)⟩
theorem eqVals(a a':Option Addr)(n c c':Nat)(I:Nat->Itm)(w:World)(h:IL w a n I)(h':IL w a' n I)(hn:n<=1048576) :
 Calls Tryz.prog 39 #[.slice a n c,.slice a' n c'] w fun e w'=>e=.returned (.bool true)/\Below w.heap.size w w':=by
 have hb0:=Below.refl w.heap.size w;go_enter Tryz.func39,Tryz.ntmps39
 go_wp2;go_loopw [5] (fun i wr=>∃ k:Nat,k<=n/\i=.int .i64 k/\Below w.heap.size w wr) (fun i _=>n - (intOf i).toNat)
 case atStart=>exact⟨0,by omega,rfl,hb0⟩
 case round=>
  obtain⟨k,hk,rfl,hb⟩:=hrel;by_cases hlt:k<n
  ·
   have hkk:(k:Int)<n:=by omega
   obtain⟨b,off,rfl,c0,c1,c2,_⟩:=h.later hb k hlt;obtain⟨b',off',rfl,e0,e1,e2,_⟩:=h'.later hb k hlt;go_wp2;go_region_with (go_at_call 92;refine(eqVal _ _ _ _).mono ?_;rintro e w1 ⟨rfl,hb1⟩)
   all_goals
    go_wp2;go_roundw
    case rel=>exact⟨k+1,by omega,by go_num,bstep hb (undrew hb1)⟩
    case measure=>simp [intOf];omega
  ·
   obtain rfl:k=n:=by omega
   go_wp2;go_ret
   exact⟨rfl,hb⟩
theorem szItm(o:Int)(m:Int)(s:ByteArray)(w:World)(L:Int)(h0:0<=L)(h1:L<=1048576)(hs:s.size<=9223372036854775807) :
 Calls Tryz.prog 65 #[.agg #[.int .i64 o,.int .i64 m,.string s],.int .i64 L] w fun e w'=>Below w.heap.size w w'/\∃ r:Int,e=.returned (.int .i64 r)/\r<=1048576/\(0<=r->s.size<=1048576):=by
 go_enter Tryz.func65,Tryz.ntmps65
 by_cases hneg:(0:Int)<=L - s.size
 ·
  go_wp2;go_ret
  exact⟨bal _ _,_,rfl,by omega,fun _=>by omega⟩
 ·
  go_wp2;go_ret
  exact⟨bal _ _,-1,rfl,by omega,fun hh=>by omega⟩
theorem szItms(a:Option Addr)(n c:Nat)(I:Nat->Itm)(w:World)(h:IX w a n I)(L:Int)(h0:0<=L)(h1:L<=1048576) :
 Calls Tryz.prog 24 #[.slice a n c,.int .i64 L] w fun e w'=>Below w.heap.size w w'/\∃ r:Int,e=.returned (.int .i64 r)/\r<=1048576/\(0<=r->n<=1048576/\∀ k,k<n->(I k).s.size<=1048576):=by
 have hn:=h.1;have hb0:=Below.refl w.heap.size w;by_cases hs:(n:Int)<=L
 ·
  go_enter Tryz.func24,Tryz.ntmps24
  go_wp2;go_loopw [1,5] (fun l i wr=>∃ k:Nat,∃ x:Int,k<=n/\i=.int .i64 k/\l=.int .i64 x/\0<=x/\x<=1048576/\(∀ j,j<k->(I j).s.size<=1048576)/\Below w.heap.size w wr) (fun _ i _=>n - (intOf i).toNat)
  case atStart=>exact⟨0,_,by omega,rfl,rfl,by omega,by omega,fun j hj=>by omega,hb0⟩
  case round=>
   obtain⟨k,x,hk,rfl,rfl,hx0,hx1,hall,hb⟩:=hrel;by_cases hlt:k<n
   ·
    obtain⟨b,off,rfl,c0,c1,c2,hsz⟩:=(h.later hb).2 k hlt;go_wp2_with (go_at_call 65;refine(szItm _ _ _ _ _ hx0 hx1 hsz).mono ?_;rintro e w1 ⟨hb1,r,rfl,hr1,hr2⟩;replace hb1:=bstep hb hb1;by_cases hr:(0:Int)<=r)
    ·
     go_roundw
     case rel=>exact⟨k+1,r,by omega,by go_num,rfl,hr,hr1,fun j hj=>by
      by_cases e:j=k
      · subst e;exact hr2 hr
      · exact hall j (by omega),hb1⟩
     case measure=>simp [intOf];omega
    ·
     go_ret
     exact⟨hb1,-1,rfl,by omega,fun hh=>by omega⟩
   ·
    obtain rfl:k=n:=by omega
    go_wp2;go_ret
    exact⟨hb,_,rfl,hx1,fun _=>⟨by omega,hall⟩⟩
 ·
  go_enter Tryz.func24,Tryz.ntmps24
  go_wp2;go_ret
  exact⟨hb0,-1,rfl,by omega,fun hh=>by omega⟩
theorem toItm(o:Int)(m:Int)(s:ByteArray)(w:World):Calls Tryz.prog 72 #[.agg #[.int .i64 o,.int .i64 m,.string s]] w fun e w'=>e=.returned (.agg #[.int .i64 o,.int .i64 m,.string s])/\Below w.heap.size w w':=by
 go_enter Tryz.func72,Tryz.ntmps72
 go_wp2;exact bodyPost_ret (v:=.agg #[.int .i64 o,.int .i64 m,.string s]) (by simp [results,Tryz.results72,go_sem]) rfl ⟨rfl,below3 _ _ _ _⟩
theorem Tryz.infoItm:(Tryz.prog.info? 108).map (fun i=>(i.zero,i.size,i.bytes))=some (some (.agg #[.int .i64 0,.int .i64 0,.string ByteArray.empty]),3,32):=by kernel_rfl
theorem eqItm(o:Int)(m:Int)(s:ByteArray)(w:World):Calls Tryz.prog 95 #[.agg #[.int .i64 o,.int .i64 m,.string s],.agg #[.int .i64 o,.int .i64 m,.string s]] w fun e w'=>e=.returned (.bool true)/\Below w.heap.size w w':=by
 have hq:=eqS_same s;go_enter Tryz.func95,Tryz.ntmps95
 go_wp2;go_ret
 exact⟨rfl,bstep (bal _ _) (bal _ _)⟩
theorem eqItms(a a':Option Addr)(n c c':Nat)(I:Nat->Itm)(w:World)(h:IL w a n I)(h':IL w a' n I)(hn:n<=1048576) :
 Calls Tryz.prog 42 #[.slice a n c,.slice a' n c'] w fun e w'=>e=.returned (.bool true)/\Below w.heap.size w w':=by
 have hb0:=Below.refl w.heap.size w;go_enter Tryz.func42,Tryz.ntmps42
 go_wp2;go_loopw [5] (fun i wr=>∃ k:Nat,k<=n/\i=.int .i64 k/\Below w.heap.size w wr) (fun i _=>n - (intOf i).toNat)
 case atStart=>exact⟨0,by omega,rfl,hb0⟩
 case round=>
  obtain⟨k,hk,rfl,hb⟩:=hrel;by_cases hlt:k<n
  ·
   have hkk:(k:Int)<n:=by omega
   obtain⟨b,off,rfl,c0,c1,c2,_⟩:=h.later hb k hlt;obtain⟨b',off',rfl,e0,e1,e2,_⟩:=h'.later hb k hlt;go_wp2;go_region_with (go_at_call 95;refine(eqItm _ _ _ _).mono ?_;rintro e w1 ⟨rfl,hb1⟩)
   all_goals
    go_wp2;go_roundw
    case rel=>exact⟨k+1,by omega,by go_num,bstep hb (undrew hb1)⟩
    case measure=>simp [intOf];omega
  ·
   obtain rfl:k=n:=by omega
   go_wp2;go_ret
   exact⟨rfl,hb⟩
set_option maxRecDepth 20000
set_option maxHeartbeats 4000000
def OX(w:World)(a:Option Addr)(n:Nat)(m:Nat->Nat)(O:Nat->Nat->Itm):Prop:=
 n<=9223372036854775807/\∀ k,k<n->∃ b off i c,a=some ⟨b,off,none⟩/\w.cell? ⟨b,off+k,none⟩=some (.slice i (m k) c)/\IX w i (m k) (O k)
theorem OX.later{w w':World}{a:Option Addr}{n:Nat}{m:Nat->Nat}{O:Nat->Nat->Itm}(h:OX w a n m O)(hb:Below w.heap.size w w'):OX w' a n m O:=⟨h.1,fun k hk=>by
 obtain⟨b,off,i,c,e,h0,hi⟩:=h.2 k hk;exact⟨b,off,i,c,e,keepB hb h0,hi.later hb⟩⟩
theorem OX.small{w:World}{a:Option Addr}{n:Nat}{m:Nat->Nat}{O:Nat->Nat->Itm}(h:OX w a n m O)(hs:∀ k,k<n->m k<=1048576/\∀ j,j<m k->(O k j).s.size<=1048576):OL w a n m O:=fun k hk=>by
 obtain⟨b,off,i,c,e,h0,hi⟩:=h.2 k hk;exact⟨b,off,i,c,e,h0,hi.small (hs k hk).2,(hs k hk).1⟩
theorem szOuts(a:Option Addr)(n c:Nat)(m:Nat->Nat)(O:Nat->Nat->Itm)(w:World)(h:OX w a n m O)(L:Int)(h0:0<=L)(h1:L<=1048576) :
 Calls Tryz.prog 25 #[.slice a n c,.int .i64 L] w fun e w'=>Below w.heap.size w w'/\∃ r:Int,e=.returned (.int .i64 r)/\r<=1048576/\(0<=r->n<=1048576/\∀ k,k<n->m k<=1048576/\∀ j,j<m k->(O k j).s.size<=1048576):=by
 have hn:=h.1;have hb0:=Below.refl w.heap.size w;by_cases hs:(n:Int)<=L
 ·
  go_enter Tryz.func25,Tryz.ntmps25
  go_wp2;go_loopw [1,5] (fun l i wr=>∃ k:Nat,∃ x:Int,k<=n/\i=.int .i64 k/\l=.int .i64 x/\0<=x/\x<=1048576/\(∀ q,q<k->m q<=1048576/\∀ j,j<m q->(O q j).s.size<=1048576)/\Below w.heap.size w wr) (fun _ i _=>n - (intOf i).toNat)
  case atStart=>exact⟨0,_,by omega,rfl,rfl,by omega,by omega,fun j hj=>by omega,hb0⟩
  case round=>
   obtain⟨k,x,hk,rfl,rfl,hx0,hx1,hall,hb⟩:=hrel;by_cases hlt:k<n
   ·
    obtain⟨b,off,i,c',rfl,c0,hi⟩:=(h.later hb).2 k hlt;go_wp2_with (go_at_call 24;refine(szItms i _ c' _ _ hi _ hx0 hx1).mono ?_;rintro e w1 ⟨hb1,r,rfl,hr1,hr2⟩;replace hb1:=bstep hb hb1;by_cases hr:(0:Int)<=r)
    ·
     go_roundw
     case rel=>exact⟨k+1,r,by omega,by go_num,rfl,hr,hr1,fun j hj=>by
      by_cases e:j=k
      · subst e;exact hr2 hr
      · exact hall j (by omega),hb1⟩
     case measure=>simp [intOf];omega
    ·
     go_ret
     exact⟨hb1,-1,rfl,by omega,fun hh=>by omega⟩
   ·
    obtain rfl:k=n:=by omega
    go_wp2;go_ret
    exact⟨hb,_,rfl,hx1,fun _=>⟨by omega,hall⟩⟩
 ·
  go_enter Tryz.func25,Tryz.ntmps25
  go_wp2;go_ret
  exact⟨hb0,-1,rfl,by omega,fun hh=>by omega⟩
theorem Tryz.infoOut:(Tryz.prog.info? 42).map (fun i=>(i.zero,i.size,i.bytes))=some (some (.slice none 0 0),1,24):=by kernel_rfl
theorem IL.set{w:World}{g n B k:Nat}{I:Nat->Itm}{v:Value}(h:IL w (some ⟨g,0,none⟩) n I)(hne:B≠g):IL (w.setCell ⟨B,k,none⟩ v) (some ⟨g,0,none⟩) n I:=fun j hj=>by
 obtain⟨b,off,e,h0,h1,h2,hs⟩:=h j hj;obtain⟨rfl,rfl⟩:g=b/\0=off:=by simpa using e
 exact⟨g,0,rfl,by rw [World.cell?_setCell_far _ _ _ _ hne];exact h0,by rw [World.cell?_setCell_far _ _ _ _ hne];exact h1,by rw [World.cell?_setCell_far _ _ _ _ hne];exact h2,hs⟩
def Kp(G:Nat)(w w':World):Prop:=∀ a v,G<=a.block->w.cell? a=some v->w'.cell? a=some v
theorem Kp.of{w w':World}(G:Nat)(hb:Below w.heap.size w w'):Kp G w w':=fun _ _ _ h=>keepB hb h
theorem Kp.trans{G:Nat}{a b c:World}(h:Kp G a b)(k:Kp G b c):Kp G a c:=fun x v hx hc=>k x v hx (h x v hx hc)
theorem Kp.set{G B i:Nat}{w:World}{v:Value}(h:B<G):Kp G w (w.setCell ⟨B,i,none⟩ v):=fun x u hx hc=>by
 rw [World.cell?_setCell_far _ _ _ _ (show B≠x.block by omega)];exact hc
theorem CL.kp{G g n:Nat}{w w':World}{C:Nat->Clm}(h:CL w (some ⟨g,0,none⟩) n C)(k:Kp G w w')(hg:G<=g):CL w' (some ⟨g,0,none⟩) n C:=fun j hj=>by
 obtain⟨b,off,e,h0,h1,hs⟩:=h j hj;obtain⟨rfl,rfl⟩:g=b/\0=off:=by simpa using e
 exact⟨g,0,rfl,k _ _ hg h0,k _ _ hg h1,hs⟩
theorem IL.kp{G g n:Nat}{w w':World}{I:Nat->Itm}(h:IL w (some ⟨g,0,none⟩) n I)(k:Kp G w w')(hg:G<=g):IL w' (some ⟨g,0,none⟩) n I:=fun j hj=>by
 obtain⟨b,off,e,h0,h1,h2,hs⟩:=h j hj;obtain⟨rfl,rfl⟩:g=b/\0=off:=by simpa using e
 exact⟨g,0,rfl,k _ _ hg h0,k _ _ hg h1,k _ _ hg h2,hs⟩
def OF(G:Nat)(w:World)(g n:Nat)(m:Nat->Nat)(O:Nat->Nat->Itm):Prop:=
 ∀ k,k<n->∃ q,G<=q/\w.cell? ⟨g,k,none⟩=some (.slice (some ⟨q,0,none⟩) (m k) (m k))/\IL w (some ⟨q,0,none⟩) (m k) (O k)/\m k<=1048576
theorem OF.kp{G H g n:Nat}{w w':World}{m:Nat->Nat}{O:Nat->Nat->Itm}(h:OF G w g n m O)(k:Kp H w w')(hg:H<=g)(hG:H<=G):OF G w' g n m O:=fun j hj=>by
 obtain⟨q,hq,h0,hi,hm⟩:=h j hj;exact⟨q,hq,k _ _ hg h0,hi.kp k (by omega),hm⟩
theorem OF.ol{G g n:Nat}{w:World}{m:Nat->Nat}{O:Nat->Nat->Itm}(h:OF G w g n m O):OL w (some ⟨g,0,none⟩) n m O:=fun j hj=>by
 obtain⟨q,hq,h0,hi,hm⟩:=h j hj;exact⟨g,0,_,_,rfl,by rw [Nat.zero_add];exact h0,hi,hm⟩
theorem IL.drew{w:World}{a:Option Addr}{n:Nat}{I:Nat->Itm}(h:IL w a n I):IL w.drew a n I:=h
theorem eqOuts(a a':Option Addr)(n c c':Nat)(m:Nat->Nat)(O:Nat->Nat->Itm)(w:World)(h:OL w a n m O)(h':OL w a' n m O)(hn:n<=1048576) :
 Calls Tryz.prog 43 #[.slice a n c,.slice a' n c'] w fun e w'=>e=.returned (.bool true)/\Below w.heap.size w w':=by
 have hb0:=Below.refl w.heap.size w;go_enter Tryz.func43,Tryz.ntmps43
 go_wp2;go_loopw [5] (fun i wr=>∃ k:Nat,k<=n/\i=.int .i64 k/\Below w.heap.size w wr) (fun i _=>n - (intOf i).toNat)
 case atStart=>exact⟨0,by omega,rfl,hb0⟩
 case round=>
  obtain⟨k,hk,rfl,hb⟩:=hrel;by_cases hlt:k<n
  ·
   have hkk:(k:Int)<n:=by omega
   obtain⟨b,off,i,d,rfl,c0,hi,hm⟩:=h.later hb k hlt;obtain⟨b',off',i',d',rfl,c0',hi',-⟩:=h'.later hb k hlt;go_wp2;go_region_with (go_at_call 42;refine(eqItms i i' _ d d' _ _ hi.drew hi'.drew hm).mono ?_;rintro e w1 ⟨rfl,hb1⟩)
   all_goals
    go_wp2;go_roundw
    case rel=>exact⟨k+1,by omega,by go_num,bstep hb (undrew hb1)⟩
    case measure=>simp [intOf];omega
  ·
   obtain rfl:k=n:=by omega
   go_wp2;go_ret
   exact⟨rfl,hb⟩
set_option maxRecDepth 20000
set_option maxHeartbeats 4000000
structure SX(w:World)(d:St)(p:Sa):Prop where
 tb:d.tb.size<=9223372036854775807
 col:d.col.size<=9223372036854775807
 co:CX w p.a2 d.n2 d.C
 va:IX w p.a3 d.n3 d.V
 ex:IX w p.a5 d.n5 d.E
 wh:IX w p.a6 d.n6 d.W
 ou:OX w p.a7 d.n7 d.m7 d.O
theorem SX.later{w w':World}{d:St}{p:Sa}(h:SX w d p)(hb:Below w.heap.size w w'):SX w' d p:=
 ⟨h.tb,h.col,h.co.later hb,h.va.later hb,h.ex.later hb,h.wh.later hb,h.ou.later hb⟩
structure Sm8(d:St):Prop where
 tb:d.tb.size<=1048576
 col:d.col.size<=1048576
 co:d.n2<=1048576/\∀ k,k<d.n2->(d.C k).s.size<=1048576
 va:d.n3<=1048576/\∀ k,k<d.n3->(d.V k).s.size<=1048576
 ex:d.n5<=1048576/\∀ k,k<d.n5->(d.E k).s.size<=1048576
 wh:d.n6<=1048576/\∀ k,k<d.n6->(d.W k).s.size<=1048576
 ou:d.n7<=1048576/\∀ k,k<d.n7->d.m7 k<=1048576/\∀ j,j<d.m7 k->(d.O k j).s.size<=1048576
theorem SX.small{w:World}{d:St}{p:Sa}(h:SX w d p)(s:Sm8 d):SM w d p:=
 ⟨s.tb,s.col,h.co.small s.co.2,h.va.small s.va.2,h.ex.small s.ex.2,h.wh.small s.wh.2,h.ou.small s.ou.2,s.co.1,s.va.1,s.ex.1,s.wh.1,s.ou.1⟩
theorem eqStm_any(d:St)(p p':Sa)(w:World)(h:SM w d p)(h':SM w d p'):Calls Tryz.prog 13 #[.agg (cs8 d p),.agg (cs8 d p')] w fun e w'=>e=.returned (.bool true)/\Below w.heap.size w w':=by
 have hb0:=bstep (bal w (.cells (cs8 d p) 45)) (bal _ (.cells (cs8 d p') 45));have H0:=h.later hb0;have K0:=h'.later hb0;have Q0:=(B8.new w d p 45).later (bal _ (.cells (cs8 d p') 45));have P0:=B8.new (w.alloc (.cells (cs8 d p) 45)) d p' 45;have es:(w.alloc (.cells (cs8 d p) 45)).heap.size=w.heap.size+1:=by simp
 rw [es] at P0;go_enter Tryz.func13,Tryz.ntmps13
 go_wp2_with (first | (go_at_call 43;refine(eqOuts _ _ _ _ _ _ _ _ H4.ou K4.ou H4.l7).mono ?_;rintro e w5 ⟨rfl,hb5⟩;have H5:=H4.later hb5;have K5:=K4.later hb5;have Q5:=Q4.later hb5;have P5:=P4.later hb5;replace hb5:=bstep hb4 hb5;obtain⟨y0_5,y1_5,y2_5,y3_5,y4_5,y5_5,y6_5,y7_5⟩:=id Q5;obtain⟨z0_5,z1_5,z2_5,z3_5,z4_5,z5_5,z6_5,z7_5⟩:=id P5) | (go_at_call 42;have _h:=hb3;refine(eqItms _ _ _ _ _ _ _ H3.wh K3.wh H3.l6).mono ?_;rintro e w4 ⟨rfl,hb4⟩;have H4:=H3.later hb4;have K4:=K3.later hb4;have Q4:=Q3.later hb4;have P4:=P3.later hb4;replace hb4:=bstep hb3 hb4;obtain⟨y0_4,y1_4,y2_4,y3_4,y4_4,y5_4,y6_4,y7_4⟩:=id Q4;obtain⟨z0_4,z1_4,z2_4,z3_4,z4_4,z5_4,z6_4,z7_4⟩:=id P4) | (go_at_call 42;refine(eqItms _ _ _ _ _ _ _ H2.ex K2.ex H2.l5).mono ?_;rintro e w3 ⟨rfl,hb3⟩;have H3:=H2.later hb3;have K3:=K2.later hb3;have Q3:=Q2.later hb3;have P3:=P2.later hb3;replace hb3:=bstep hb2 hb3;obtain⟨y0_3,y1_3,y2_3,y3_3,y4_3,y5_3,y6_3,y7_3⟩:=id Q3;obtain⟨z0_3,z1_3,z2_3,z3_3,z4_3,z5_3,z6_3,z7_3⟩:=id P3) | (go_at_call 39;refine(eqVals _ _ _ _ _ _ _ H1.va K1.va H1.l3).mono ?_;rintro e w2 ⟨rfl,hb2⟩;have H2:=H1.later hb2;have K2:=K1.later hb2;have Q2:=Q1.later hb2;have P2:=P1.later hb2;replace hb2:=bstep hb1 hb2;obtain⟨y0_2,y1_2,y2_2,y3_2,y4_2,y5_2,y6_2,y7_2⟩:=id Q2;obtain⟨z0_2,z1_2,z2_2,z3_2,z4_2,z5_2,z6_2,z7_2⟩:=id P2) | (go_at_call 41;refine(eqCols _ _ _ _ _ _ _ H0.co K0.co H0.l2).mono ?_;rintro e w1 ⟨rfl,hb1⟩;have H1:=H0.later hb1;have K1:=K0.later hb1;have Q1:=Q0.later hb1;have P1:=P0.later hb1;replace hb1:=bstep hb0 hb1;obtain⟨y0_1,y1_1,y2_1,y3_1,y4_1,y5_1,y6_1,y7_1⟩:=id Q1;obtain⟨z0_1,z1_1,z2_1,z3_1,z4_1,z5_1,z6_1,z7_1⟩:=id P1))
 go_ret
 exact⟨rfl,hb5⟩
theorem rowL{w w':World}{B:Nat}{o:Obj}(h:w.heap[B]?=some o)(hb:Below w.heap.size w w'):w'.heap[B]?=some o:=(hb.block B (Array.getElem?_eq_some_iff.1 h).1).trans h
theorem rowO{w:World}{B B' i:Nat}{o:Obj}{v:Value}(h:w.heap[B']?=some o)(hne:B'≠B):(w.setCell ⟨B,i,none⟩ v).heap[B']?=some o:=(heap_setCell_other _ _ _ _ hne).trans h
theorem bset{w V:World}{B i:Nat}{v:Value}(hb:Below w.heap.size w V)(hB:w.heap.size<=B):Below w.heap.size w (V.setCell ⟨B,i,none⟩ v):=hb.setCell hB _
structure R3(V:World)(B:Nat)(A Z X:Array Value):Prop where
 a:V.heap[B]?=some (.cells A 30 (0,0))
 z:V.heap[B+1]?=some (.cells Z 45 (0,0))
 x:V.heap[B+1+1]?=some (.cells X 45 (0,0))
theorem R3.later{V V':World}{B:Nat}{A Z X:Array Value}(h:R3 V B A Z X)(hb:Below V.heap.size V V'):R3 V' B A Z X:=⟨rowL h.a hb,rowL h.z hb,rowL h.x hb⟩
theorem R3.set{V:World}{B i:Nat}{A Z X:Array Value}{v:Value}(h:R3 V B A Z X):R3 (V.setCell ⟨B+1+1,i,none⟩ v) B A Z (X.setIfInBounds i v):=⟨rowO h.a (by omega),rowO h.z (by omega),heap_setCell_same _ _ _ _ _ _ h.x⟩
theorem R3.new(w:World)(A Z X:Array Value):R3 (((w.alloc (.cells A 30)).alloc (.cells Z 45)).alloc (.cells X 45)) w.heap.size A Z X:=by
 have e1:(w.alloc (.cells A 30)).heap.size=w.heap.size+1:=by simp
 have e2:((w.alloc (.cells A 30)).alloc (.cells Z 45)).heap.size=w.heap.size+1+1:=by simp
 have h1:=heap_alloc_new w (.cells A 30);have h2:=heap_alloc_new (w.alloc (.cells A 30)) (.cells Z 45);have h3:=heap_alloc_new ((w.alloc (.cells A 30)).alloc (.cells Z 45)) (.cells X 45);rw [e1] at h2;rw [e2] at h3;exact⟨rowL (rowL h1 (bal _ _)) (bal _ _),rowL h2 (bal _ _),h3⟩
set_option maxRecDepth 20000
set_option maxHeartbeats 4000000
theorem szRows(a:Option Addr)(n c:Nat)(m:Nat->Nat)(O:Nat->Nat->Itm)(w:World)(h:OX w a n m O)(L:Int)(h0:0<=L)(h1:L<=1048576) :
 Calls Tryz.prog 112 #[.slice a n c,.int .i64 L] w fun e w'=>Below w.heap.size w w'/\∃ r:Int,e=.returned (.int .i64 r)/\r<=1048576/\(0<=r->n<=1048576/\∀ k,k<n->m k<=1048576/\∀ j,j<m k->(O k j).s.size<=1048576):=by
 have hn:=h.1;have hb0:=Below.refl w.heap.size w;by_cases hs:(n:Int)<=L
 ·
  go_enter Tryz.func112,Tryz.ntmps112
  go_wp2;go_loopw [1,5] (fun l i wr=>∃ k:Nat,∃ x:Int,k<=n/\i=.int .i64 k/\l=.int .i64 x/\0<=x/\x<=1048576/\(∀ q,q<k->m q<=1048576/\∀ j,j<m q->(O q j).s.size<=1048576)/\Below w.heap.size w wr) (fun _ i _=>n - (intOf i).toNat)
  case atStart=>exact⟨0,_,by omega,rfl,rfl,by omega,by omega,fun j hj=>by omega,hb0⟩
  case round=>
   obtain⟨k,x,hk,rfl,rfl,hx0,hx1,hall,hb⟩:=hrel;by_cases hlt:k<n
   ·
    obtain⟨b,off,i,c',rfl,c0,hi⟩:=(h.later hb).2 k hlt;go_wp2_with (go_at_call 23;refine(szVals i _ c' _ _ hi _ hx0 hx1).mono ?_;rintro e w1 ⟨hb1,r,rfl,hr1,hr2⟩;replace hb1:=bstep hb hb1;by_cases hr:(0:Int)<=r)
    ·
     go_roundw
     case rel=>exact⟨k+1,r,by omega,by go_num,rfl,hr,hr1,fun j hj=>by
      by_cases e:j=k
      · subst e;exact hr2 hr
      · exact hall j (by omega),hb1⟩
     case measure=>simp [intOf];omega
    ·
     go_ret
     exact⟨hb1,-1,rfl,by omega,fun hh=>by omega⟩
   ·
    obtain rfl:k=n:=by omega
    go_wp2;go_ret
    exact⟨hb,_,rfl,hx1,fun _=>⟨by omega,hall⟩⟩
 ·
  go_enter Tryz.func112,Tryz.ntmps112
  go_wp2;go_ret
  exact⟨hb0,-1,rfl,by omega,fun hh=>by omega⟩
theorem Tryz.infoRow:(Tryz.prog.info? 41).map (fun i=>(i.zero,i.size,i.bytes))=some (some (.slice none 0 0),1,24):=by kernel_rfl
theorem eqRows(a a':Option Addr)(n c c':Nat)(m:Nat->Nat)(O:Nat->Nat->Itm)(w:World)(h:OL w a n m O)(h':OL w a' n m O)(hn:n<=1048576) :
 Calls Tryz.prog 11 #[.slice a n c,.slice a' n c'] w fun e w'=>e=.returned (.bool true)/\Below w.heap.size w w':=by
 have hb0:=Below.refl w.heap.size w;go_enter Tryz.func11,Tryz.ntmps11
 go_wp2;go_loopw [5] (fun i wr=>∃ k:Nat,k<=n/\i=.int .i64 k/\Below w.heap.size w wr) (fun i _=>n - (intOf i).toNat)
 case atStart=>exact⟨0,by omega,rfl,hb0⟩
 case round=>
  obtain⟨k,hk,rfl,hb⟩:=hrel;by_cases hlt:k<n
  ·
   have hkk:(k:Int)<n:=by omega
   obtain⟨b,off,i,d,rfl,c0,hi,hm⟩:=h.later hb k hlt;obtain⟨b',off',i',d',rfl,c0',hi',-⟩:=h'.later hb k hlt;go_wp2;go_region_with (go_at_call 39;refine(eqVals i i' _ d d' _ _ hi.drew hi'.drew hm).mono ?_;rintro e w1 ⟨rfl,hb1⟩)
   all_goals
    go_wp2;go_roundw
    case rel=>exact⟨k+1,by omega,by go_num,bstep hb (undrew hb1)⟩
    case measure=>simp [intOf];omega
  ·
   obtain rfl:k=n:=by omega
   go_wp2;go_ret
   exact⟨rfl,hb⟩
end Go.Proofs.YtgeiamgeclbiaaaGreatDoor
