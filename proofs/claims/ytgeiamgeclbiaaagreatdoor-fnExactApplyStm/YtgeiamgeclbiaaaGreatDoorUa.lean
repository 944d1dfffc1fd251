import Derived.Test.YtgeiamgeclbiaaaGreatDoorTa
import Derived.Test.YtgeiamgeclbiaaaGreatDoorNlx
import Derived.Laws.Cover1
namespace Go.Proofs.YtgeiamgeclbiaaaGreatDoor
open Go.RowKit Go.Maps Go.WideMaps
set_option maxRecDepth 20000
set_option maxHeartbeats 4000000
structure Td where
 s:ByteArray
 n:Nat
 C:Nat->Clm
 r:Nat
 m:Nat->Nat
 R:Nat->Nat->Itm
abbrev cs3 (d:Td) (ac:Option Addr) (cc:Nat) (ar:Option Addr) (cr:Nat):Array Value:=#[.string d.s,.slice ac d.n cc,.slice ar d.r cr]
structure Sm3(d:Td):Prop where
 s:d.s.size<=1048576
 co:d.n<=1048576/\∀ k,k<d.n->(d.C k).s.size<=1048576
 ro:d.r<=1048576/\∀ k,k<d.r->d.m k<=1048576/\∀ j,j<d.m k->(d.R k j).s.size<=1048576
def TX(w:World)(a:Option Addr)(n:Nat)(T:Nat->Td):Prop:=
 n<=9223372036854775807/\∀ k,k<n->∃ b off ac cc ar cr,a=some ⟨b,off,none⟩/\w.cell? ⟨b,off+k * 3,none⟩=some (.string (T k).s)/\w.cell? ⟨b,off+k * 3+1,none⟩=some (.slice ac (T k).n cc)/\w.cell? ⟨b,off+k * 3+2,none⟩=some (.slice ar (T k).r cr)/\(T k).s.size<=9223372036854775807/\CX w ac (T k).n (T k).C/\OX w ar (T k).r (T k).m (T k).R
theorem TX.later{w w':World}{a:Option Addr}{n:Nat}{T:Nat->Td}(h:TX w a n T)(hb:Below w.heap.size w w'):TX w' a n T:=⟨h.1,fun k hk=>by
 obtain⟨b,off,ac,cc,ar,cr,e,h0,h1,h2,hs,hC,hO⟩:=h.2 k hk;exact⟨b,off,ac,cc,ar,cr,e,keepB hb h0,keepB hb h1,keepB hb h2,hs,hC.later hb,hO.later hb⟩⟩
def TL(w:World)(a:Option Addr)(n:Nat)(T:Nat->Td):Prop:=
 ∀ k,k<n->∃ b off ac cc ar cr,a=some ⟨b,off,none⟩/\w.cell? ⟨b,off+k * 3,none⟩=some (.string (T k).s)/\w.cell? ⟨b,off+k * 3+1,none⟩=some (.slice ac (T k).n cc)/\w.cell? ⟨b,off+k * 3+2,none⟩=some (.slice ar (T k).r cr)/\CL w ac (T k).n (T k).C/\OL w ar (T k).r (T k).m (T k).R/\Sm3 (T k)
theorem TL.later{w w':World}{a:Option Addr}{n:Nat}{T:Nat->Td}(h:TL w a n T)(hb:Below w.heap.size w w'):TL w' a n T:=fun k hk=>by
 obtain⟨b,off,ac,cc,ar,cr,e,h0,h1,h2,hC,hO,hs⟩:=h k hk;exact⟨b,off,ac,cc,ar,cr,e,keepB hb h0,keepB hb h1,keepB hb h2,hC.later hb,hO.later hb,hs⟩
theorem TX.small{w:World}{a:Option Addr}{n:Nat}{T:Nat->Td}(h:TX w a n T)(hs:∀ k,k<n->Sm3 (T k)):TL w a n T:=fun k hk=>by
 obtain⟨b,off,ac,cc,ar,cr,e,h0,h1,h2,-,hC,hO⟩:=h.2 k hk;exact⟨b,off,ac,cc,ar,cr,e,h0,h1,h2,hC.small (hs k hk).co.2,hO.small (hs k hk).ro.2,hs k hk⟩
theorem szTab(s:ByteArray)(n:Nat)(C:Nat->Clm)(r:Nat)(m:Nat->Nat)(R:Nat->Nat->Itm)(ac:Option Addr)(cc:Nat)(ar:Option Addr)(cr:Nat)(w:World)(hs:s.size<=9223372036854775807)(hC:CX w ac n C)(hR:OX w ar r m R)(L:Int)(h0:0<=L)(h1:L<=1048576) :
 Calls Tryz.prog 62 #[.agg #[.string s,.slice ac n cc,.slice ar r cr],.int .i64 L] w fun e w'=>Below w.heap.size w w'/\∃ x:Int,e=.returned (.int .i64 x)/\x<=1048576/\(0<=x->Sm3 ⟨s,n,C,r,m,R⟩):=by
 have hb0:=bal w (.cells #[.string s,.slice ac n cc,.slice ar r cr] 99);obtain⟨g0,g1,g2⟩:=kept3 (Below.refl (w.alloc (.cells #[.string s,.slice ac n cc,.slice ar r cr] 99)).heap.size (w.alloc (.cells #[.string s,.slice ac n cc,.slice ar r cr] 99)));have HC:=hC.later hb0;have HR:=hR.later hb0;by_cases ht:(0:Int)<=L - s.size
 ·
  go_enter Tryz.func62,Tryz.ntmps62
  go_wp2_with (first | (go_at_call 22;refine(szCols _ _ _ _ _ HC _ (by omega) (by omega)).mono ?_;rintro e w1 ⟨hb1,r1,rfl,hr1,hs1⟩;have HR1:=HR.later hb1;have k2:=keepB hb1 g2;replace hb1:=bstep hb0 hb1;by_cases hp1:(0:Int)<=r1) | (go_at_call 112;refine(szRows _ _ _ _ _ _ HR1 _ hp1 hr1).mono ?_;rintro e w2 ⟨hb2,r2,rfl,hr2,hs2⟩;replace hb2:=bstep hb1 hb2;by_cases hp2:(0:Int)<=r2))
  all_goals go_ret
  · exact⟨hb2,r2,rfl,hr2,fun _=>⟨by show s.size<=_;omega,hs1 hp1,hs2 hp2⟩⟩
  · exact⟨hb2,-1,rfl,by omega,fun hh=>by omega⟩
  · exact⟨hb1,-1,rfl,by omega,fun hh=>by omega⟩
 ·
  go_enter Tryz.func62,Tryz.ntmps62
  go_wp2;go_ret
  exact⟨hb0,-1,rfl,by omega,fun hh=>by omega⟩
theorem szTabs(a:Option Addr)(n c:Nat)(T:Nat->Td)(w:World)(h:TX w a n T)(L:Int)(h0:0<=L)(h1:L<=1048576) :
 Calls Tryz.prog 21 #[.slice a n c,.int .i64 L] w fun e w'=>Below w.heap.size w w'/\∃ r:Int,e=.returned (.int .i64 r)/\r<=1048576/\(0<=r->n<=1048576/\∀ k,k<n->Sm3 (T k)):=by
 have hn:=h.1;have hb0:=Below.refl w.heap.size w;by_cases hs:(n:Int)<=L
 ·
  go_enter Tryz.func21,Tryz.ntmps21
  go_wp2;go_loopw [1,5] (fun l i wr=>∃ k:Nat,∃ x:Int,k<=n/\i=.int .i64 k/\l=.int .i64 x/\0<=x/\x<=1048576/\(∀ q,q<k->Sm3 (T q))/\Below w.heap.size w wr) (fun _ i _=>n - (intOf i).toNat)
  case atStart=>exact⟨0,_,by omega,rfl,rfl,by omega,by omega,fun j hj=>by omega,hb0⟩
  case round=>
   obtain⟨k,x,hk,rfl,rfl,hx0,hx1,hall,hb⟩:=hrel;by_cases hlt:k<n
   ·
    obtain⟨b,off,ac,cc,ar,cr,rfl,c0,c1,c2,hsz,hC,hO⟩:=(h.later hb).2 k hlt;go_wp2_with (go_at_call 62;refine(szTab _ _ _ _ _ _ ac cc ar cr _ hsz hC hO _ hx0 hx1).mono ?_;rintro e w1 ⟨hb1,r,rfl,hr1,hr2⟩;replace hb1:=bstep hb hb1;by_cases hr:(0:Int)<=r)
    ·
     go_roundw
     case rel=>exact⟨k+1,r,by omega,by go_num,rfl,hr,hr1,fun j hj=>by
      by_cases e:j=k
      · subst e;exact hr2 hr
      · exact hall j (by omega),hb1⟩
     case measure=>simp [intOf];omega
    ·
     go_ret
     exact⟨hb1,-1,rfl,by omega,fun hh=>by omega⟩
   ·
    obtain rfl:k=n:=by omega
    go_wp2;go_ret
    exact⟨hb,_,rfl,hx1,fun _=>⟨by omega,hall⟩⟩
 ·
  go_enter Tryz.func21,Tryz.ntmps21
  go_wp2;go_ret
  exact⟨hb0,-1,rfl,by omega,fun hh=>by omega⟩
structure Q3(V:World)(B:Nat)(A Z X:Array Value):Prop where
 a:V.heap[B]?=some (.cells A 99 (0,0))
 z:V.heap[B+1]?=some (.cells Z 62 (0,0))
 x:V.heap[B+1+1]?=some (.cells X 62 (0,0))
theorem Q3.later{V V':World}{B:Nat}{A Z X:Array Value}(h:Q3 V B A Z X)(hb:Below V.heap.size V V'):Q3 V' B A Z X:=⟨rowL h.a hb,rowL h.z hb,rowL h.x hb⟩
theorem Q3.set{V:World}{B i:Nat}{A Z X:Array Value}{v:Value}(h:Q3 V B A Z X):Q3 (V.setCell ⟨B+1+1,i,none⟩ v) B A Z (X.setIfInBounds i v):=⟨rowO h.a (by omega),rowO h.z (by omega),heap_setCell_same _ _ _ _ _ _ h.x⟩
theorem Q3.new(w:World)(A Z X:Array Value):Q3 (((w.alloc (.cells A 99)).alloc (.cells Z 62)).alloc (.cells X 62)) w.heap.size A Z X:=by
 have e1:(w.alloc (.cells A 99)).heap.size=w.heap.size+1:=by simp
 have e2:((w.alloc (.cells A 99)).alloc (.cells Z 62)).heap.size=w.heap.size+1+1:=by simp
 have h1:=heap_alloc_new w (.cells A 99);have h2:=heap_alloc_new (w.alloc (.cells A 99)) (.cells Z 62);have h3:=heap_alloc_new ((w.alloc (.cells A 99)).alloc (.cells Z 62)) (.cells X 62);rw [e1] at h2;rw [e2] at h3;exact⟨rowL (rowL h1 (bal _ _)) (bal _ _),rowL h2 (bal _ _),h3⟩
set_option maxRecDepth 20000
set_option maxHeartbeats 4000000
theorem Tryz.infoTab:(Tryz.prog.info? 62).map (fun i=>(i.zero,i.size,i.bytes))=some (some (.agg #[.string ByteArray.empty,.slice none 0 0,.slice none 0 0]),3,64):=by kernel_rfl
theorem Kp.mono{G H:Nat}{w w':World}(h:Kp G w w')(hG:G<=H):Kp H w w':=fun a v ha hc=>h a v (by omega) hc
def TF(G:Nat)(w:World)(g n:Nat)(T:Nat->Td):Prop:=
 ∀ k,k<n->∃ g1 g2,G<=g1/\G<=g2/\w.cell? ⟨g,k * 3,none⟩=some (.string (T k).s)/\w.cell? ⟨g,k * 3+1,none⟩=some (.slice (some ⟨g1,0,none⟩) (T k).n (T k).n)/\w.cell? ⟨g,k * 3+2,none⟩=some (.slice (some ⟨g2,0,none⟩) (T k).r (T k).r)/\CL w (some ⟨g1,0,none⟩) (T k).n (T k).C/\OF G w g2 (T k).r (T k).m (T k).R/\Sm3 (T k)
theorem TF.kp{G H g n:Nat}{w w':World}{T:Nat->Td}(h:TF G w g n T)(k:Kp H w w')(hg:H<=g)(hG:H<=G):TF G w' g n T:=fun j hj=>by
 obtain⟨g1,g2,h1,h2,c0,c1,c2,hC,hO,hs⟩:=h j hj;exact⟨g1,g2,h1,h2,k _ _ hg c0,k _ _ hg c1,k _ _ hg c2,hC.kp k (by omega),hO.kp k (by omega) hG,hs⟩
theorem TF.tl{G g n:Nat}{w:World}{T:Nat->Td}(h:TF G w g n T):TL w (some ⟨g,0,none⟩) n T:=fun j hj=>by
 obtain⟨g1,g2,h1,h2,c0,c1,c2,hC,hO,hs⟩:=h j hj;exact⟨g,0,_,_,_,_,rfl,by rw [Nat.zero_add];exact c0,by rw [Nat.zero_add];exact c1,by rw [Nat.zero_add];exact c2,hC,hO.ol,hs⟩
theorem eqTab(s:ByteArray)(n:Nat)(C:Nat->Clm)(r:Nat)(m:Nat->Nat)(R:Nat->Nat->Itm)(ac:Option Addr)(cc:Nat)(ar:Option Addr)(cr:Nat)(ac':Option Addr)(cc':Nat)(ar':Option Addr)(cr':Nat)(w:World)(hC:CL w ac n C)(hR:OL w ar r m R)(hC':CL w ac' n C)(hR':OL w ar' r m R)(hn:n<=1048576)(hr:r<=1048576) :
 Calls Tryz.prog 93 #[.agg #[.string s,.slice ac n cc,.slice ar r cr],.agg #[.string s,.slice ac' n cc',.slice ar' r cr']] w fun e w'=>e=.returned (.bool true)/\Below w.heap.size w w':=by
 have hss:=eqS_same s;have hb0:=bstep (bal w (.cells #[.string s,.slice ac n cc,.slice ar r cr] 62)) (bal _ (.cells #[.string s,.slice ac' n cc',.slice ar' r cr'] 62));have hC0:=hC.later hb0;have hC0':=hC'.later hb0;have hR0:=hR.later hb0;have hR0':=hR'.later hb0;have es:(w.alloc (.cells #[.string s,.slice ac n cc,.slice ar r cr] 62)).heap.size=w.heap.size+1:=by simp
 have g2:=keepB (bal _ (.cells #[.string s,.slice ac' n cc',.slice ar' r cr'] 62)) ((cell_of_row _ _ 2 _ _ _ (heap_alloc_new w (.cells #[.string s,.slice ac n cc,.slice ar r cr] 62))).trans (show _=some (Value.slice ar r cr) from rfl))
 have k2:=(cell_of_row _ _ 2 _ _ _ (heap_alloc_new (w.alloc (.cells #[.string s,.slice ac n cc,.slice ar r cr] 62)) (.cells #[.string s,.slice ac' n cc',.slice ar' r cr'] 62))).trans (show _=some (Value.slice ar' r cr') from rfl)
 rw [es] at k2;go_enter Tryz.func93,Tryz.ntmps93
 go_wp2_with (first | (go_at_call 41;refine(eqCols _ _ _ _ _ _ _ hC0 hC0' hn).mono ?_;rintro e w1 ⟨rfl,hb1⟩;have g2':=keepB hb1 g2;have k2':=keepB hb1 k2;have hR1:=hR0.later hb1;have hR1':=hR0'.later hb1;replace hb1:=bstep hb0 hb1) | (go_at_call 11;refine(eqRows _ _ _ _ _ _ _ _ hR1 hR1' hr).mono ?_;rintro e w2 ⟨rfl,hb2⟩;replace hb2:=bstep hb1 hb2))
 go_ret
 exact⟨rfl,hb2⟩
theorem eqTabs(a a':Option Addr)(n c c':Nat)(T:Nat->Td)(w:World)(h:TL w a n T)(h':TL w a' n T)(hn:n<=1048576) :
 Calls Tryz.prog 40 #[.slice a n c,.slice a' n c'] w fun e w'=>e=.returned (.bool true)/\Below w.heap.size w w':=by
 have hb0:=Below.refl w.heap.size w;go_enter Tryz.func40,Tryz.ntmps40
 go_wp2;go_loopw [5] (fun i wr=>∃ k:Nat,k<=n/\i=.int .i64 k/\Below w.heap.size w wr) (fun i _=>n - (intOf i).toNat)
 case atStart=>exact⟨0,by omega,rfl,hb0⟩
 case round=>
  obtain⟨k,hk,rfl,hb⟩:=hrel;by_cases hlt:k<n
  ·
   have hkk:(k:Int)<n:=by omega
   obtain⟨b,off,ac,cc,ar,cr,rfl,c0,c1,c2,hC,hO,hs⟩:=h.later hb k hlt;obtain⟨b',off',ac',cc',ar',cr',rfl,d0,d1,d2,hC',hO',-⟩:=h'.later hb k hlt;go_wp2;go_region_with (go_at_call 93;refine(eqTab _ _ _ _ _ _ ac cc ar cr ac' cc' ar' cr' wr.drew hC hO hC' hO' hs.co.1 hs.ro.1).mono ?_;rintro e w1 ⟨rfl,hb1⟩)
   all_goals
    go_wp2;go_roundw
    case rel=>exact⟨k+1,by omega,by go_num,bstep hb (undrew hb1)⟩
    case measure=>simp [intOf];omega
  ·
   obtain rfl:k=n:=by omega
   go_wp2;go_ret
   exact⟨rfl,hb⟩
theorem eqDb_any(a a':Option Addr)(n c c':Nat)(T:Nat->Td)(w:World)(h:TL w a n T)(h':TL w a' n T)(hn:n<=1048576) :
 Calls Tryz.prog 12 #[.agg #[.slice a n c],.agg #[.slice a' n c']] w fun e w'=>e=.returned (.bool true)/\Below w.heap.size w w':=by
 have hb0:=bstep (bal w (.cells #[.slice a n c] 38)) (bal _ (.cells #[.slice a' n c'] 38));have h0:=h.later hb0;have h0':=h'.later hb0;go_enter Tryz.func12,Tryz.ntmps12
 go_wp2_with (go_at_call 40;refine(eqTabs _ _ _ _ _ _ _ h0 h0' hn).mono ?_;rintro e w1 ⟨rfl,hb1⟩;replace hb1:=bstep hb0 hb1)
 go_ret
 exact⟨rfl,hb1⟩
structure D3(V:World)(B:Nat)(A Z X:Array Value):Prop where
 a:V.heap[B]?=some (.cells A 24 (0,0))
 z:V.heap[B+1]?=some (.cells Z 38 (0,0))
 x:V.heap[B+1+1]?=some (.cells X 38 (0,0))
theorem D3.later{V V':World}{B:Nat}{A Z X:Array Value}(h:D3 V B A Z X)(hb:Below V.heap.size V V'):D3 V' B A Z X:=⟨rowL h.a hb,rowL h.z hb,rowL h.x hb⟩
theorem D3.set{V:World}{B i:Nat}{A Z X:Array Value}{v:Value}(h:D3 V B A Z X):D3 (V.setCell ⟨B+1+1,i,none⟩ v) B A Z (X.setIfInBounds i v):=⟨rowO h.a (by omega),rowO h.z (by omega),heap_setCell_same _ _ _ _ _ _ h.x⟩
theorem D3.new(w:World)(A Z X:Array Value):D3 (((w.alloc (.cells A 24)).alloc (.cells Z 38)).alloc (.cells X 38)) w.heap.size A Z X:=by
 have e1:(w.alloc (.cells A 24)).heap.size=w.heap.size+1:=by simp
 have e2:((w.alloc (.cells A 24)).alloc (.cells Z 38)).heap.size=w.heap.size+1+1:=by simp
 have h1:=heap_alloc_new w (.cells A 24);have h2:=heap_alloc_new (w.alloc (.cells A 24)) (.cells Z 38);have h3:=heap_alloc_new ((w.alloc (.cells A 24)).alloc (.cells Z 38)) (.cells X 38);rw [e1] at h2;rw [e2] at h3;exact⟨rowL (rowL h1 (bal _ _)) (bal _ _),rowL h2 (bal _ _),h3⟩
def TC(w:World)(g n:Nat)(T:Nat->Td):Prop:=
 ∀ k,k<n->∃ g1 ar cr,w.cell? ⟨g,k * 3,none⟩=some (.string (T k).s)/\w.cell? ⟨g,k * 3+1,none⟩=some (.slice (some ⟨g1,0,none⟩) (T k).n (T k).n)/\w.cell? ⟨g,k * 3+2,none⟩=some (.slice ar (T k).r cr)/\CL w (some ⟨g1,0,none⟩) (T k).n (T k).C/\OL w ar (T k).r (T k).m (T k).R/\Sm3 (T k)
theorem TC.later{w w':World}{g n:Nat}{T:Nat->Td}(h:TC w g n T)(hb:Below w.heap.size w w'):TC w' g n T:=fun k hk=>by
 obtain⟨g1,ar,cr,h0,h1,h2,hC,hO,hs⟩:=h k hk;exact⟨g1,ar,cr,keepB hb h0,keepB hb h1,keepB hb h2,hC.later hb,hO.later hb,hs⟩
theorem TC.tl{w:World}{g n:Nat}{T:Nat->Td}(h:TC w g n T):TL w (some ⟨g,0,none⟩) n T:=fun j hj=>by
 obtain⟨g1,ar,cr,c0,c1,c2,hC,hO,hs⟩:=h j hj;exact⟨g,0,_,_,_,_,rfl,by rw [Nat.zero_add];exact c0,by rw [Nat.zero_add];exact c1,by rw [Nat.zero_add];exact c2,hC,hO,hs⟩
theorem TF.tc{G g n:Nat}{w:World}{T:Nat->Td}(h:TF G w g n T):TC w g n T:=fun j hj=>by
 obtain⟨g1,g2,h1,h2,c0,c1,c2,hC,hO,hs⟩:=h j hj;exact⟨g1,_,_,c0,c1,c2,hC,hO.ol,hs⟩
set_option maxRecDepth 20000
set_option maxHeartbeats 8000000
theorem sStm_as(k:Int)(tb:ByteArray)(n2:Nat)(C:Nat->Clm)(n3:Nat)(V:Nat->Itm)(col:ByteArray)(n5:Nat)(E:Nat->Itm)(n6:Nat)(W:Nat->Itm)(n7:Nat)(m7:Nat->Nat)(O:Nat->Nat->Itm)
 (a2:Option Addr) (c2:Nat) (a3:Option Addr) (c3:Nat) (a5:Option Addr) (c5:Nat) (a6:Option Addr) (c6:Nat) (a7:Option Addr) (c7:Nat) (D:St) (hD:(⟨k,tb,n2,C,n3,V,col,n5,E,n6,W,n7,m7,O⟩:St)=D)
 (w:World) (h:SM w ⟨k,tb,n2,C,n3,V,col,n5,E,n6,W,n7,m7,O⟩ ⟨a2,c2,a3,c3,a5,c5,a6,c6,a7,c7⟩) :
 Calls Tryz.prog 51 #[.agg #[.int .i64 k,.string tb,.slice a2 n2 c2,.slice a3 n3 c3,.string col,.slice a5 n5 c5,.slice a6 n6 c6,.slice a7 n7 c7]] w fun e w'=>e=.returned (.bool (okStm D))/\Below w.heap.size w w':=by
 have hb0:=bal w (.cells #[.int .i64 k,.string tb,.slice a2 n2 c2,.slice a3 n3 c3,.string col,.slice a5 n5 c5,.slice a6 n6 c6,.slice a7 n7 c7] 45);have H0:=h.later hb0;have q0:B8 (w.alloc (.cells #[.int .i64 k,.string tb,.slice a2 n2 c2,.slice a3 n3 c3,.string col,.slice a5 n5 c5,.slice a6 n6 c6,.slice a7 n7 c7] 45)) w.heap.size ⟨k,tb,n2,C,n3,V,col,n5,E,n6,W,n7,m7,O⟩ ⟨a2,c2,a3,c3,a5,c5,a6,c6,a7,c7⟩:=B8.new w ⟨k,tb,n2,C,n3,V,col,n5,E,n6,W,n7,m7,O⟩ ⟨a2,c2,a3,c3,a5,c5,a6,c6,a7,c7⟩ 45;have hE:=isE col;obtain⟨htb,hcol,-,-,-,-,-,-,-,-,-,-⟩:=id h;dsimp only at htb hcol
 have hB:badS D=((k != 1 && (n2:Int) != 0) || (k != 2 && (n3:Int) != 0) || (k != 3 && (!decide (col.size=0) || (n5:Int) != 0)) || (k != 5 && (n7:Int) != 0)):=by rw [←hD];rfl
 have hO1:okStm D=(okName tb && !badS D && !(decide (k<3) && (n6:Int) != 0) && restS D):=by rw [←hD];rfl
 have hR1:Hid (k=1->restS D=(btw n2 1 20 && allN n2 (fun j=>okCol (C j).s (C j).t))):=fun e=>by rw [←hD];simp [restS,e]
 have hR2:Hid (k=2->restS D=(btw n3 1 20 && allN n3 (fun j=>okValue (V j).o (V j).m (V j).s))):=fun e=>by rw [←hD];simp [restS,e]
 have hR3:Hid (k=3->restS D=(okName col && okExp E n5 && okWhere W n6)):=fun e=>by rw [←hD];simp [restS,e]
 have hR4:Hid (k=4->restS D=okWhere W n6):=fun e=>by rw [←hD];simp [restS,e]
 have hR5:Hid (k=5->restS D=(btw n7 1 20 && allN n7 (fun j=>okExp (O j) (m7 j)) && okWhere W n6)):=fun e=>by rw [←hD];simp [restS,e]
 have hR0:Hid (¬k=1->¬k=2->¬k=3->¬k=4->¬k=5->restS D=false):=fun e1 e2 e3 e4 e5=>by rw [←hD];simp [restS,e1,e2,e3,e4,e5]
 have HB:Hid (badS D=_):=hB;have HO:Hid (okStm D=_):=hO1;clear hB hD hO1;go_enter Tryz.func51,Tryz.ntmps51
 go_upto_region 4 with (go_at_call 98;refine(sName _ _ htb).mono ?_;rintro e w1 ⟨rfl,hb1⟩;have H1:=H0.later hb1;have Q1:=q0.later hb1;obtain⟨q0,q1,q2,q3,q4,q5,q6,q7⟩:=id Q1;dsimp only at q0 q1 q2 q3 q4 q5 q6 q7;replace hb1:=hb0.trans (hb1.mono hb0.size);rcases hnm:okName tb)
 ·
  go_ret
  exact⟨retB (by rw [HO.out];simp [hnm]),hb1⟩
 go_cut [0,3,58] (fun _ v3 v wx=>v3=.int .i64 k/\v=.bool (badS D)/\wx=w1)
 case first=>
  go_wp2;all_goals go_meet
  all_goals exact⟨by first | rfl | simp [*],congrArg Value.bool (by rw [HB.out];simp [*]),rfl⟩
 case rest=>
  obtain⟨rfl,rfl,rfl⟩:=hcut;obtain⟨-,-,hco,hva,hex,hwh,hou,l2,l3,l5,l6,l7⟩:=id H1;dsimp only at hco hva hex hwh hou l2 l3 l5 l6 l7
  rcases hbad:badS D
  ·
   by_cases hk3:k<3
   ·
    by_cases e6:n6=0
    ·
     subst e6;by_cases e1:k=1
     ·
      subst e1;have HR:Hid (okStm D=(btw n2 1 20 && allN n2 (fun j=>okCol (C j).s (C j).t))):=by rw [Hid,HO.out,hbad,hR1.out rfl,hnm];simp
      clear hR1 hR2 hR3 hR4 hR5 hR0 HO HB hbad;go_wp2;go_loopw [2,5,73] (fun _ _ i wr=>∃ k:Nat,k<=n2/\i=.int .i64 k/\(0<k->n2<=20)/\(∀ j,j<k->okCol (C j).s (C j).t=true)/\Below wc.heap.size wc wr) (fun _ _ i _=>n2 - (intOf i).toNat)
      case atStart=>exact⟨0,by omega,rfl,fun hh=>by omega,fun j hj=>by omega,Below.refl _ _⟩
      case round=>
       obtain⟨j,hj,rfl,hm,hall,hb2⟩:=hrel;have t2:=keepB hb2 q2;by_cases hlt:j<n2
       ·
        obtain⟨b,off,rfl,d0,d1,hs⟩:=hco.later hb2 j hlt;have t3:=keepB (bal wr (.cells #[.string (C j).s,.int .i64 (C j).t] 113)) t2;go_wp2_with (first | (go_at_call 98;refine(sName _ _ hs).mono ?_;rintro e w3 ⟨rfl,hb3⟩;obtain⟨f0,f1⟩:=kept2 hb3;replace hb3:=bj hb2 hb3;rcases ho:okName (C j).s) | (go_at_call 99;refine(sType _ _).mono ?_;rintro e w4 ⟨rfl,rfl⟩;rcases ht:isTyp (C j).t))
        all_goals try (go_ret;first | (refine⟨retB (HR.out.trans (and_no hlt ?_)).symm,hb1.trans (hb3.mono hb1.size)⟩;first | (right;omega) | (left;simp [okCol,ho];done) | (left;simp [okCol,ht];done)) | (refine⟨retB (HR.out.trans (and_no hlt ?_)).symm,hb1.trans ((hb2.trans ((bal _ _).mono hb2.size)).mono hb1.size)⟩;right;omega))
        go_roundw
        case rel=>exact⟨j+1,by omega,by go_num,fun _=>by omega,fun i hi=>by
         by_cases e:i=j
         · subst e;simp [okCol,ho,ht]
         · exact hall i (by omega),hb3⟩
        case measure=>simp [intOf];omega
       ·
        obtain rfl:j=n2:=by omega
        go_wp2;go_ret
        exact⟨retB (HR.out.trans (and_yes hall hm)).symm,hb1.trans (hb2.mono hb1.size)⟩
     ·
      by_cases e2:k=2
      ·
       subst e2;have HR:Hid (okStm D=(btw n3 1 20 && allN n3 (fun j=>okValue (V j).o (V j).m (V j).s))):=by rw [Hid,HO.out,hbad,hR2.out rfl,hnm];simp
       clear hR1 hR2 hR3 hR4 hR5 hR0 HO HB hbad;go_wp2;go_loopw [2,7,103] (fun _ _ i wr=>∃ k:Nat,k<=n3/\i=.int .i64 k/\(0<k->n3<=20)/\(∀ j,j<k->okValue (V j).o (V j).m (V j).s=true)/\Below wc.heap.size wc wr) (fun _ _ i _=>n3 - (intOf i).toNat)
       case atStart=>exact⟨0,by omega,rfl,fun hh=>by omega,fun j hj=>by omega,Below.refl _ _⟩
       case round=>
        obtain⟨j,hj,rfl,hm,hall,hb2⟩:=hrel;have t2:=keepB hb2 q3;by_cases hlt:j<n3
        ·
         obtain⟨b,off,rfl,d0,d1,d2,hs⟩:=hva.later hb2 j hlt;have t3:=keepB (bal wr (.cells #[.int .i64 (V j).o,.int .i64 (V j).m,.string (V j).s] 66)) t2;go_wp2_with (go_at_call 100;refine(sValue _ _ _ _ hs).mono ?_;rintro e w3 ⟨rfl,hb3⟩;replace hb3:=bj hb2 hb3;rcases ho:okValue (V j).o (V j).m (V j).s)
         all_goals try (go_ret;first | (refine⟨retB (HR.out.trans (and_no hlt ?_)).symm,hb1.trans (hb3.mono hb1.size)⟩;first | (right;omega) | (left;exact ho)) | (refine⟨retB (HR.out.trans (and_no hlt ?_)).symm,hb1.trans ((hb2.trans ((bal _ _).mono hb2.size)).mono hb1.size)⟩;right;omega))
         go_roundw
         case rel=>exact⟨j+1,by omega,by go_num,fun _=>by omega,fun i hi=>by
          by_cases e:i=j
          · subst e;exact ho
          · exact hall i (by omega),hb3⟩
         case measure=>simp [intOf];omega
        ·
         obtain rfl:j=n3:=by omega
         go_wp2;go_ret
         exact⟨retB (HR.out.trans (and_yes hall hm)).symm,hb1.trans (hb2.mono hb1.size)⟩
      ·
       have HR:Hid (okStm D=false):=by rw [Hid,HO.out,hR0.out e1 e2 (by omega) (by omega) (by omega)];simp
       clear hR1 hR2 hR3 hR4 hR5 hR0 HO HB hbad;go_wp2;go_ret
       exact⟨retB (by rw [HR.out]),hb1⟩
    ·
     have e6i:¬(n6:Int)=0:=by omega
     have HR:Hid (okStm D=false):=by rw [Hid,HO.out];simp [hk3,e6]
     clear hR1 hR2 hR3 hR4 hR5 hR0 HO HB hbad;go_wp2;go_ret
     exact⟨retB (by rw [HR.out]),hb1⟩
   ·
    have hk3':3<=k:=by omega
    have HO3:Hid (okStm D=restS D):=by rw [Hid,HO.out,hbad,hnm];simp [hk3]
    clear hR1 hR2 HO HB hbad;by_cases e3:k=3
    ·
     subst e3;have HR:Hid (okStm D=(okName col && okExp E n5 && okWhere W n6)):=HO3.out.trans (hR3.out rfl);clear hR3 hR4 hR5 hR0 HO3;go_wp2_with (first | (go_at_call 98;refine(sName col _ hcol).mono ?_;rintro e w2 ⟨rfl,hb2⟩;have H2:=H1.later hb2;obtain⟨-,-,-,-,-,r5,r6,-⟩:=Q1.later hb2;dsimp only at r5 r6;replace hb2:=hb1.trans (hb2.mono hb1.size);rcases ho:okName col) | (go_at_call 101;refine(sExp a5 n5 c5 E _ H2.ex l5).mono ?_;rintro e w3 ⟨rfl,hb3⟩;have H3:=H2.later hb3;have s6:=keepB hb3 r6;replace hb3:=hb2.trans (hb3.mono hb2.size);rcases hx:okExp E n5) | (go_at_call 102;refine(sWhere a6 n6 c6 W _ H3.wh l6).mono ?_;rintro e w4 ⟨rfl,hb4⟩;replace hb4:=hb3.trans (hb4.mono hb3.size)))
     ·
      go_ret
      exact⟨retB (by rw [HR.out,ho];simp),hb2⟩
     ·
      go_ret
      exact⟨retB (by rw [HR.out,hx];simp),hb3⟩
     ·
      go_ret
      exact⟨retB (by rw [HR.out,ho,hx];simp),hb4⟩
    by_cases e4:k=4
    ·
     subst e4;have HR:Hid (okStm D=okWhere W n6):=HO3.out.trans (hR4.out rfl);clear hR3 hR4 hR5 hR0 HO3;go_wp2_with (go_at_call 102;refine(sWhere a6 n6 c6 W _ hwh l6).mono ?_;rintro e w4 ⟨rfl,hb4⟩;replace hb4:=hb1.trans (hb4.mono hb1.size))
     go_ret
     exact⟨retB (by rw [HR.out]),hb4⟩
    by_cases e5:k=5
    ·
     subst e5;have HR:Hid (okStm D=((btw n7 1 20 && allN n7 (fun j=>okExp (O j) (m7 j))) && okWhere W n6)):=HO3.out.trans (hR5.out rfl);clear hR3 hR4 hR5 hR0 HO3;go_wp2;go_loopw [2,9,146] (fun _ _ i wr=>∃ k:Nat,k<=n7/\i=.int .i64 k/\(0<k->n7<=20)/\(∀ j,j<k->okExp (O j) (m7 j)=true)/\Below wc.heap.size wc wr) (fun _ _ i _=>n7 - (intOf i).toNat)
     case atStart=>exact⟨0,by omega,rfl,fun hh=>by omega,fun j hj=>by omega,Below.refl _ _⟩
     case round=>
      obtain⟨j,hj,rfl,hm,hall,hb2⟩:=hrel;have t2:=keepB hb2 q7;have t6:=keepB hb2 q6;by_cases hlt:j<n7
      ·
       obtain⟨b,off,i,c,rfl,d0,di,dm⟩:=hou.later hb2 j hlt;go_wp2_with (go_at_call 101;refine(sExp i _ c _ _ di dm).mono ?_;rintro e w3 ⟨rfl,hb3⟩;replace hb3:=hb2.trans (hb3.mono hb2.size);rcases ho:okExp (O j) (m7 j))
       all_goals try (go_ret;first | (refine⟨retB (HR.out.trans (and_no2 (and_no hlt ?_))).symm,hb1.trans (hb3.mono hb1.size)⟩;first | (right;omega) | (left;exact ho)) | (refine⟨retB (HR.out.trans (and_no2 (and_no hlt ?_))).symm,hb1.trans (hb2.mono hb1.size)⟩;right;omega))
       go_roundw
       case rel=>exact⟨j+1,by omega,by go_num,fun _=>by omega,fun i hi=>by
        by_cases e:i=j
        · subst e;exact ho
        · exact hall i (by omega),hb3⟩
       case measure=>simp [intOf];omega
      ·
       obtain rfl:j=n7:=by omega
       have hyy:=and_yes hall hm;by_cases h0:0<(j:Int)
       ·
        go_wp2_with (go_at_call 102;refine(sWhere a6 n6 c6 W _ (hwh.later hb2) l6).mono ?_;rintro e w3 ⟨rfl,hb3⟩;replace hb3:=hb2.trans (hb3.mono hb2.size))
        go_ret
        exact⟨retB (by rw [HR.out,hyy,decide_eq_true (show 0<j by omega)];simp),hb1.trans (hb3.mono hb1.size)⟩
       ·
        have h0':decide (0<(j:Int))=false:=by simp;omega
        go_wp2;go_ret
        exact⟨retB (by rw [HR.out,hyy,decide_eq_false (show ¬0<j by omega)];simp),hb1.trans (hb2.mono hb1.size)⟩
    have HR:Hid (okStm D=false):=HO3.out.trans (hR0.out (by omega) (by omega) e3 e4 e5);clear hR3 hR4 hR5 hR0 HO3;go_wp2;go_ret
    exact⟨retB (by rw [HR.out]),hb1⟩
  ·
   have HR:Hid (okStm D=false):=by rw [Hid,HO.out,hbad];simp
   clear hR1 hR2 hR3 hR4 hR5 hR0 HO HB;go_wp2;go_ret
   exact⟨retB (by rw [HR.out]),hb1⟩
set_option maxRecDepth 20000
set_option maxHeartbeats 4000000
def rightB(o m:Int)(s:ByteArray)(k:Int):Bool:=o == k && (if k == 1 then decide (s.size=0) else m == 0 && okText s)
theorem sRight(o m:Int)(s:ByteArray)(k:Int)(w:World)(hs:s.size<=1048576):Calls Tryz.prog 138 #[.agg #[.int .i64 o,.int .i64 m,.string s],.int .i64 k] w fun e w'=>e=.returned (.bool (rightB o m s k))/\Below w.heap.size w w':=by
 have hb0:=bal w (.cells #[.int .i64 o,.int .i64 m,.string s] 66);have hE:=isE s;rcases h1:(o == k)
 ·
  go_enter Tryz.func138,Tryz.ntmps138
  go_wp2;go_ret
  exact⟨retB (by simp [rightB,h1]),hb0⟩
 rcases h2:(k == 1)
 ·
  rcases h3:(m == 0)
  ·
   go_enter Tryz.func138,Tryz.ntmps138
   go_wp2;go_ret
   exact⟨retB (by simp [rightB,h1,h2,h3]),hb0⟩
  ·
   go_enter Tryz.func138,Tryz.ntmps138
   go_wp2_with (go_at_call 144;refine(sText s _ hs).mono ?_;rintro e w1 ⟨rfl,hb1⟩)
   go_ret
   exact⟨retB (by simp [rightB,h1,h2,h3]),hb0⟩
 ·
  go_enter Tryz.func138,Tryz.ntmps138
  go_wp2;go_ret
  exact⟨retB (by simp [rightB,h1,h2]),hb0⟩
def befV(m:Int)(s:ByteArray)(m':Int)(s':ByteArray):Bool:=decide (m<m') || Op.bytesLess s.toList s'.toList
theorem sCompare(o m:Int)(s:ByteArray)(o' m':Int)(s':ByteArray)(w:World):Calls Tryz.prog 106 #[.agg #[.int .i64 o,.int .i64 m,.string s],.agg #[.int .i64 o',.int .i64 m',.string s']] w fun e w'=>∃ r:Int,e=.returned (.int .i64 r)/\(0<=r↔befV m s m' s'=false)/\Below w.heap.size w w':=by
 have hb0:=bstep (bal w (.cells #[.int .i64 o,.int .i64 m,.string s] 66)) (bal _ (.cells #[.int .i64 o',.int .i64 m',.string s'] 66));by_cases h1:m<m'
 ·
  have HB:Hid (befV m s m' s'=true):=by simp [Hid,befV,h1]
  go_enter Tryz.func106,Tryz.ntmps106
  go_wp2;all_goals go_ret
  all_goals exact⟨_,rfl,by rw [HB.out];simp,hb0⟩
 rcases h2:Op.bytesLess s.toList s'.toList
 ·
  have HB:Hid (befV m s m' s'=false):=by simp [Hid,befV,h2];omega
  by_cases h3:m'<m
  ·
   go_enter Tryz.func106,Tryz.ntmps106
   go_wp2;all_goals go_ret
   all_goals exact⟨_,rfl,by rw [HB.out];simp,hb0⟩
  ·
   rcases h4:(s.toList == s'.toList)
   ·
    go_enter Tryz.func106,Tryz.ntmps106
    go_wp2;all_goals go_ret
    all_goals exact⟨_,rfl,by rw [HB.out];simp,hb0⟩
   ·
    go_enter Tryz.func106,Tryz.ntmps106
    go_wp2;all_goals go_ret
    all_goals exact⟨_,rfl,by rw [HB.out];simp,hb0⟩
 ·
  have HB:Hid (befV m s m' s'=true):=by simp [Hid,befV,h2]
  go_enter Tryz.func106,Tryz.ntmps106
  go_wp2;all_goals go_ret
  all_goals exact⟨_,rfl,by rw [HB.out];simp,hb0⟩
def hasCol(C:Nat->Clm)(s:ByteArray):Nat->Bool
 | 0=>false
 | k+1=>hasCol C s k || (C k).s.toList == s.toList
theorem hasCol_mono{C:Nat->Clm}{s:ByteArray}{k:Nat}(h:hasCol C s k=true):∀ n,k<=n->hasCol C s n=true:=by
 intro n hn;induction n with
 | zero=>
  obtain rfl:k=0:=by omega
  exact h
 | succ n ih=>
  by_cases e:k=n+1
  · subst e;exact h
  · rw [hasCol,ih (by omega)];rfl
theorem sCol(a:Option Addr)(n c:Nat)(C:Nat->Clm)(s:ByteArray)(w:World)(h:CL w a n C)(hn:n<=1048576):Calls Tryz.prog 67 #[.slice a n c,.string s] w fun e w'=>∃ r:Int,e=.returned (.int .i64 r)/\(0<=r↔hasCol C s n=true)/\Below w.heap.size w w':=by
 have hb0:=Below.refl w.heap.size w;go_enter Tryz.func67,Tryz.ntmps67
 go_wp2;go_loopw [5,6,9] (fun _ _ i wr=>∃ k:Nat,k<=n/\i=.int .i64 k/\hasCol C s k=false/\Below w.heap.size w wr) (fun _ _ i _=>n - (intOf i).toNat)
 case atStart=>exact⟨0,by omega,rfl,rfl,hb0⟩
 case round=>
  obtain⟨k,hk,rfl,hno,hb⟩:=hrel;by_cases hlt:k<n
  ·
   obtain⟨b,off,rfl,d0,d1,hs⟩:=h.later hb k hlt;have HN:Hid (hasCol C s (k+1)=(hasCol C s k || (C k).s.toList == s.toList)):=rfl;rcases he:((C k).s.toList == s.toList)
   ·
    go_wp2;go_roundw
    case rel=>exact⟨k+1,by omega,by go_num,by rw [HN.out,hno,he];rfl,bj hb (Below.refl _ _)⟩
    case measure=>simp [intOf];omega
   ·
    go_wp2;go_ret
    refine⟨_,rfl,⟨fun _=>hasCol_mono (k:=k+1) (by rw [HN.out,he];simp) n (by omega),fun _=>by omega⟩,bj hb (Below.refl _ _)⟩
  ·
   obtain rfl:k=n:=by omega
   go_wp2;go_ret
   exact⟨_,rfl,by rw [hno];simp,hb⟩
set_option maxRecDepth 20000
set_option maxHeartbeats 4000000
def cmpV(m:Int)(s:ByteArray)(m':Int)(s':ByteArray):Int:=if befV m s m' s'=true then -1 else if (decide (m'<m) || !(s.toList == s'.toList))=true then 1 else 0
theorem sCompare2(o m:Int)(s:ByteArray)(o' m':Int)(s':ByteArray)(w:World):Calls Tryz.prog 106 #[.agg #[.int .i64 o,.int .i64 m,.string s],.agg #[.int .i64 o',.int .i64 m',.string s']] w fun e w'=>e=.returned (.int .i64 (cmpV m s m' s'))/\Below w.heap.size w w':=by
 have hb0:=bstep (bal w (.cells #[.int .i64 o,.int .i64 m,.string s] 66)) (bal _ (.cells #[.int .i64 o',.int .i64 m',.string s'] 66));by_cases h1:m<m'
 ·
  have HB:Hid (cmpV m s m' s'=-1):=by simp [Hid,cmpV,befV,h1]
  go_enter Tryz.func106,Tryz.ntmps106
  go_wp2;all_goals go_ret
  all_goals exact⟨by rw [HB.out];rfl,hb0⟩
 rcases h2:Op.bytesLess s.toList s'.toList
 ·
  by_cases h3:m'<m
  ·
   have HB:Hid (cmpV m s m' s'=1):=by simp [Hid,cmpV,befV,h1,h2,h3]
   go_enter Tryz.func106,Tryz.ntmps106
   go_wp2;all_goals go_ret
   all_goals exact⟨by rw [HB.out];rfl,hb0⟩
  ·
   rcases h4:(s.toList == s'.toList)
   ·
    have HB:Hid (cmpV m s m' s'=1):=by simp [Hid,cmpV,befV,h1,h2,h3,h4]
    go_enter Tryz.func106,Tryz.ntmps106
    go_wp2;all_goals go_ret
    all_goals exact⟨by rw [HB.out];rfl,hb0⟩
   ·
    have HB:Hid (cmpV m s m' s'=0):=by simp [Hid,cmpV,befV,h1,h2,h3,h4]
    go_enter Tryz.func106,Tryz.ntmps106
    go_wp2;all_goals go_ret
    all_goals exact⟨by rw [HB.out];rfl,hb0⟩
 ·
  have HB:Hid (cmpV m s m' s'=-1):=by simp [Hid,cmpV,befV,h2]
  go_enter Tryz.func106,Tryz.ntmps106
  go_wp2;all_goals go_ret
  all_goals exact⟨by rw [HB.out];rfl,hb0⟩
def colI(C:Nat->Clm)(s:ByteArray):Nat->Option Nat
 | 0=>none
 | k+1=>match colI C s k with
  | some j=>some j
  | none=>if ((C k).s.toList == s.toList)=true then some k else none
def colZ(o:Option Nat):Int:=match o with
 | some j=>(j:Int)
 | none=>-1
theorem colI_mono{C:Nat->Clm}{s:ByteArray}{k j:Nat}(h:colI C s k=some j):∀ n,k<=n->colI C s n=some j:=by
 intro n hn;induction n with
 | zero=>
  obtain rfl:k=0:=by omega
  exact h
 | succ n ih=>
  by_cases e:k=n+1
  · subst e;exact h
  · rw [colI,ih (by omega)]
theorem colI_lt{C:Nat->Clm}{s:ByteArray}:∀ {n j:Nat},colI C s n=some j->j<n/\(C j).s=s
 | 0,j,h=>by cases h
 | n+1,j,h=>by
  rw [colI] at h;split at h
  ·
   rename_i i hi
   cases h
   have:=colI_lt hi;exact⟨by omega,this.2⟩
  ·
   split at h
   ·
    rename_i he
    cases h
    exact⟨by omega,bytes_inj2 (eq_of_beq he)⟩
   · cases h
theorem sCol2(a:Option Addr)(n c:Nat)(C:Nat->Clm)(s:ByteArray)(w:World)(h:CL w a n C)(hn:n<=1048576):Calls Tryz.prog 67 #[.slice a n c,.string s] w fun e w'=>e=.returned (.int .i64 (colZ (colI C s n)))/\Below w.heap.size w w':=by
 have hb0:=Below.refl w.heap.size w;go_enter Tryz.func67,Tryz.ntmps67
 go_wp2;go_loopw [5,6,9] (fun _ _ i wr=>∃ k:Nat,k<=n/\i=.int .i64 k/\colI C s k=none/\Below w.heap.size w wr) (fun _ _ i _=>n - (intOf i).toNat)
 case atStart=>exact⟨0,by omega,rfl,rfl,hb0⟩
 case round=>
  obtain⟨k,hk,rfl,hno,hb⟩:=hrel;have HNO:Hid (colI C s k=none):=hno;clear hno;by_cases hlt:k<n
  ·
   obtain⟨b,off,rfl,d0,d1,hs⟩:=h.later hb k hlt;have HN:Hid (colI C s (k+1)=if ((C k).s.toList == s.toList)=true then some k else none):=by show _=_;rw [colI,HNO.out]
   rcases he:((C k).s.toList == s.toList)
   ·
    go_wp2;go_roundw
    case rel=>exact⟨k+1,by omega,by go_num,by rw [HN.out,he];rfl,bj hb (Below.refl _ _)⟩
    case measure=>simp [intOf];omega
   ·
    go_wp2;go_ret
    refine⟨?_,bj hb (Below.refl _ _)⟩;rw [colI_mono (k:=k+1) (j:=k) (by rw [HN.out,he];rfl) n (by omega)];rfl
  ·
   obtain rfl:k=n:=by omega
   go_wp2;go_ret
   exact⟨by rw [HNO.out];rfl,hb⟩
def tvI(b:Bool):Int:=if b=true then 1 else 0
def tru(b:Bool):Itm:=⟨1,tvI b,⟨#[]⟩⟩
theorem sTruth(b:Bool)(w:World):Calls Tryz.prog 113 #[.bool b] w fun e w'=>e=.returned (.agg #[.int .i64 1,.int .i64 (tvI b),.string ⟨#[]⟩])/\Below w.heap.size w w':=by
 cases b
 ·
  go_enter Tryz.func113,Tryz.ntmps113
  go_wp2;exact bodyPost_ret (v:=.agg #[.int .i64 1,.int .i64 0,.string ⟨#[]⟩]) (by simp [results,Tryz.results113,go_sem]) rfl ⟨rfl,bal _ _⟩
 ·
  go_enter Tryz.func113,Tryz.ntmps113
  go_wp2;exact bodyPost_ret (v:=.agg #[.int .i64 1,.int .i64 1,.string ⟨#[]⟩]) (by simp [results,Tryz.results113,go_sem]) rfl ⟨rfl,bal _ _⟩
end Go.Proofs.YtgeiamgeclbiaaaGreatDoor
