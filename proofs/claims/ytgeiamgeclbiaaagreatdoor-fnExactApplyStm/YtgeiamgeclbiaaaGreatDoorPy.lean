import Derived.Test.YtgeiamgeclbiaaaGreatDoorTa
import Derived.Test.YtgeiamgeclbiaaaGreatDoorUa
import Derived.Test.YtgeiamgeclbiaaaGreatDoorYa
import Derived.OpenShut
import Derived.ShutString
import Derived.Deep.Slices
import Derived.Deep.SlicePairs
import Derived.Deep.Strs
import Derived.Carry
import Derived.Lib.SmallJoins
import Derived.Test.YtgeiamgeclbiaaaGreatDoorNi
import Derived.Test.YtgeiamgeclbiaaaGreatDoorYg
namespace Go.Proofs.YtgeiamgeclbiaaaGreatDoor
open Go.ChangeShapes Go.WideShapes Go.ChangeAt Go.RowKit Go.Deep Go.Joins
set_option maxRecDepth 20000
theorem open_cols{H:Type}{enc:TypeId×Value->H}{w:World}{fuel:Nat}{v:Value}{x:DataW H×List MemPlace}
 (h:DataW.trod enc Tryz.prog w 0 (fun _=>true) true fuel 25 [v]=some x):∃ a n c C,v=.slice a n c/\CX w a n C:=by
 rcases open_slice_pairs Tryz.underlying25 Tryz.underlying102 (by kernel_rfl) rfl rfl (by kernel_rfl) (by kernel_rfl) h with ⟨hcs,-⟩ | ⟨a,len,cap,m,n,V0,V1,D0,D1,P0,P1,hcs,_,hl,hm,hmm,-,hcell⟩
 ·
  simp at hcs
  subst hcs;exact⟨_,_,_,fun _=>⟨ByteArray.empty,0⟩,rfl,Nat.zero_le _,fun k hk=>absurd hk (Nat.not_lt_zero _)⟩
 ·
  simp at hcs
  subst hcs;simp only [if_true] at hmm
  subst hmm;obtain⟨b,off,spot⟩:=a;unfold maxLen at hm;obtain⟨C,hC⟩:=@choose_lt Clm ⟨⟨ByteArray.empty,0⟩⟩ m (fun i c=>V0 i=.string c.s/\V1 i=.int .i64 c.t/\c.s.size<=9223372036854775807) (fun i hi=>by
   obtain⟨-,-,t0,t1⟩:=hcell i hi;obtain⟨s,e0,-,hs⟩:=DataW.trod_string Tryz.underlying9 t0;obtain⟨z,e1,-,-⟩:=DataW.trod_int Tryz.underlying3 t1;unfold maxLen at hs;exact⟨⟨s,z⟩,by simpa using e0,by simpa using e1,by omega⟩)
  refine⟨_,_,_,C,rfl,by omega,fun k hk=>⟨b,off,?_,?_,?_,(hC k (by omega)).2.2⟩⟩
  ·
   have hspot:spot=none:=by simpa [Addr.add] using World.cell?_spot (hcell 0 (by omega)).1
   rw [hspot]
  ·
   have hspot:spot=none:=by simpa [Addr.add] using World.cell?_spot (hcell 0 (by omega)).1
   subst hspot;rw [←add_plain,←(hC k (by omega)).1];exact(hcell k (by omega)).1
  ·
   have hspot:spot=none:=by simpa [Addr.add] using World.cell?_spot (hcell 0 (by omega)).1
   subst hspot;rw [Nat.add_assoc,←add_plain,←(hC k (by omega)).2.1];exact(hcell k (by omega)).2.1
theorem list3{α:Type}{l:List α}(h:l.length=3):∃ a b c,l=[a,b,c]:=by
 match l,h with
 | [a,b,c],_=>exact⟨a,b,c,rfl⟩
theorem open_trips0{H:Type}{enc:TypeId×Value->H}{w:World}{fuel:Nat}{v:Value}{x:DataW H×List MemPlace}{t e:TypeId}{f0 f1 f2:Field}(ht:Tryz.prog.underlying t=some (.slice e))(he:Tryz.prog.underlying e=some (.struct #[f0,f1,f2]))
 (ce:Tryz.prog.cellsOf e=3) (o0:f0.offset=0) (o1:f1.offset=1) (o2:f2.offset=2) (e0:f0.type=3) (e1:f1.type=3) (e2:f2.type=9)
 (h:DataW.trod enc Tryz.prog w 0 (fun _=>true) true fuel t [v]=some x):∃ a n c I,v=.slice a n c/\IX w a n I/\∀ k,k<n->rg (I k).m:=by
 have ci:Tryz.prog.cellsOf 3=1:=by kernel_rfl
 have cs:Tryz.prog.cellsOf 9=1:=by kernel_rfl
 rcases open_slice ht h with ⟨hcs,-⟩ | ⟨a,len,cap,m,n,D,Pl,hcs,_,hl,hm,hmm,-,hx⟩
 ·
  simp at hcs
  subst hcs;exact⟨_,_,_,fun _=>⟨0,0,ByteArray.empty⟩,rfl,⟨Nat.zero_le _,fun k hk=>absurd hk (Nat.not_lt_zero _)⟩,fun k hk=>absurd hk (Nat.not_lt_zero _)⟩
 ·
  simp at hcs
  subst hcs;simp only [if_true] at hmm
  subst hmm;obtain⟨b,off,spot⟩:=a;unfold maxLen at hm;obtain⟨I,hI⟩:=@choose_lt Itm ⟨⟨0,0,ByteArray.empty⟩⟩ m (fun i c=>w.cell? ((⟨b,off,spot⟩:Addr).add (i * 3))=some (.int .i64 c.o)/\w.cell? ((⟨b,off,spot⟩:Addr).add (i * 3+1))=some (.int .i64 c.m)/\w.cell? ((⟨b,off,spot⟩:Addr).add (i * 3+2))=some (.string c.s)/\c.s.size<=9223372036854775807/\rg c.m) (fun i hi=>by
   obtain⟨cs',h1,h2⟩:=hx i hi;rw [ce] at h1;obtain⟨_,hlen,hcell⟩:=World.cells?_some h1;obtain⟨y0,y1,y2,k,-,-,g0,g1,g2⟩:=trod_struct3 he h2;obtain⟨v0,v1,v2,rfl⟩:=list3 hlen;have q0:=hcell 0 (by omega);have q1:=hcell 1 (by omega);have q2:=hcell 2 (by omega);rw [add_add] at q0 q1 q2;simp [o0,e0,ci] at g0
   simp [o1,e1,ci] at g1
   simp [o2,e2,cs] at g2
   obtain⟨z0,r0,-,-⟩:=DataW.trod_int Tryz.underlying3 g0;obtain⟨z1,r1,-,hw1⟩:=DataW.trod_int Tryz.underlying3 g1;have hg1:rg z1:=hw1;obtain⟨s,r2,-,hs⟩:=DataW.trod_string Tryz.underlying9 g2;simp at r0 r1 r2 q0 q1 q2
   unfold maxLen at hs;exact⟨⟨z0,z1,s⟩,by rw [←r0];exact q0,by rw [←r1];exact q1,by rw [←r2];exact q2,by omega,hg1⟩)
  refine⟨_,_,_,I,rfl,⟨by omega,fun k hk=>⟨b,off,?_,?_,?_,?_,(hI k (by omega)).2.2.2.1⟩⟩,fun k hk=>(hI k (by omega)).2.2.2.2⟩
  ·
   have hspot:spot=none:=by simpa [Addr.add] using World.cell?_spot (hI 0 (by omega)).1
   rw [hspot]
  all_goals
   have hspot:spot=none:=by simpa [Addr.add] using World.cell?_spot (hI 0 (by omega)).1
   subst hspot
  · rw [←add_plain];exact(hI k (by omega)).1
  · rw [Nat.add_assoc,←add_plain];exact(hI k (by omega)).2.1
  · rw [Nat.add_assoc,←add_plain];exact(hI k (by omega)).2.2.1
theorem open_trips{H:Type}{enc:TypeId×Value->H}{w:World}{fuel:Nat}{v:Value}{x:DataW H×List MemPlace}{t e:TypeId}{f0 f1 f2:Field}(ht:Tryz.prog.underlying t=some (.slice e))(he:Tryz.prog.underlying e=some (.struct #[f0,f1,f2]))
 (ce:Tryz.prog.cellsOf e=3) (o0:f0.offset=0) (o1:f1.offset=1) (o2:f2.offset=2) (e0:f0.type=3) (e1:f1.type=3) (e2:f2.type=9)
 (h:DataW.trod enc Tryz.prog w 0 (fun _=>true) true fuel t [v]=some x):∃ a n c I,v=.slice a n c/\IX w a n I/\∀ k,rg (I k).m:=by
 obtain⟨a,n,c,I,e,hI,hg⟩:=open_trips0 ht he ce o0 o1 o2 e0 e1 e2 h;refine⟨a,n,c,fun k=>if k<n then I k else ⟨0,0,ByteArray.empty⟩,e,⟨hI.1,fun k hk=>?_⟩,fun k=>?_⟩
 · have:=hI.2 k hk;simpa only [if_pos hk] using this
 ·
  show rg (if k<n then I k else ⟨0,0,ByteArray.empty⟩:Itm).m
  split
  · exact hg k ‹_›
  · rfl
theorem open_vals{H:Type}{enc:TypeId×Value->H}{w:World}{fuel:Nat}{v:Value}{x:DataW H×List MemPlace}
 (h:DataW.trod enc Tryz.prog w 0 (fun _=>true) true fuel 26 [v]=some x):∃ a n c I,v=.slice a n c/\IX w a n I/\∀ k,rg (I k).m:=
 open_trips Tryz.underlying26 Tryz.underlying104 (by kernel_rfl) rfl rfl rfl rfl rfl rfl h
theorem open_itms{H:Type}{enc:TypeId×Value->H}{w:World}{fuel:Nat}{v:Value}{x:DataW H×List MemPlace}
 (h:DataW.trod enc Tryz.prog w 0 (fun _=>true) true fuel 27 [v]=some x):∃ a n c I,v=.slice a n c/\IX w a n I/\∀ k,rg (I k).m:=
 open_trips Tryz.underlying27 Tryz.underlying107 (by kernel_rfl) rfl rfl rfl rfl rfl rfl h
structure Row1 where
 a:Option Addr
 n:Nat
 c:Nat
 I:Nat->Itm
theorem open_outs{H:Type}{enc:TypeId×Value->H}{w:World}{fuel:Nat}{v:Value}{x:DataW H×List MemPlace}
 (h:DataW.trod enc Tryz.prog w 0 (fun _=>true) true fuel 28 [v]=some x):∃ a n c m O,v=.slice a n c/\OX w a n m O:=by
 rcases open_slice1 Tryz.underlying28 (by kernel_rfl) h with ⟨hcs,-⟩ | ⟨a,len,cap,m,n,V,D,Pl,hcs,_,hl,hm,hmm,-,hx⟩
 ·
  simp at hcs
  subst hcs;exact⟨_,_,_,fun _=>0,fun _ _=>⟨0,0,ByteArray.empty⟩,rfl,Nat.zero_le _,fun k hk=>absurd hk (Nat.not_lt_zero _)⟩
 ·
  simp at hcs
  subst hcs;simp only [if_true] at hmm
  subst hmm;obtain⟨b,off,spot⟩:=a;unfold maxLen at hm;obtain⟨R,hR⟩:=@choose_lt Row1 ⟨⟨none,0,0,fun _=>⟨0,0,ByteArray.empty⟩⟩⟩ m (fun i r=>V i=.slice r.a r.n r.c/\IX w r.a r.n r.I) (fun i hi=>by
   obtain⟨a,n,c,I,e,hI,-⟩:=open_itms (hx i hi).2;exact⟨⟨a,n,c,I⟩,e,hI⟩)
  refine⟨_,_,_,fun k=>(R k).n,fun k=>(R k).I,rfl,by omega,fun k hk=>⟨b,off,(R k).a,(R k).c,?_,?_,(hR k (by omega)).2⟩⟩
  ·
   have hspot:spot=none:=by simpa [Addr.add] using World.cell?_spot (hx 0 (by omega)).1
   rw [hspot]
  ·
   have hspot:spot=none:=by simpa [Addr.add] using World.cell?_spot (hx 0 (by omega)).1
   subst hspot;rw [←add_plain,←(hR k (by omega)).1];exact(hx k (by omega)).1
theorem array8{α:Type}{cs:Array α}(h:cs.size=8):∃ c0 c1 c2 c3 c4 c5 c6 c7,cs=#[c0,c1,c2,c3,c4,c5,c6,c7]:=by
 obtain⟨l⟩:=cs;match l,h with
 | [c0,c1,c2,c3,c4,c5,c6,c7],_=>exact⟨c0,c1,c2,c3,c4,c5,c6,c7,rfl⟩
theorem open_stm{H:Type}{enc:TypeId×Value->H}{w:World}{base:Nat}{v:Value}{d:DataW H}{p:List MemPlace}(hv:Value.okWide Tryz.prog w .any base 30 v)
 (h:DataW.Trod enc Tryz.prog w 0 (fun _=>true) true 30 v d p):∃ (D:St) (P:Sa),v=.agg (cs8 D P)/\SX w D P/\RgD D:=by
 have ci:Tryz.prog.cellsOf 3=1:=by kernel_rfl
 obtain⟨cs,rfl,hsz⟩:=okWide_struct Tryz.underlying30 hv;obtain⟨c0,c1,c2,c3,c4,c5,c6,c7,rfl⟩:=array8 (hsz.trans (by kernel_rfl));obtain⟨fuel,hf⟩:=h;obtain⟨xs,n,-,-,-,hlen,hfld⟩:=DataW.trod_struct Tryz.underlying30 hf;have one:∀ t,Tryz.prog.cellsOf t=1->∀ i,i<8->∀ c:Value,(((Value.agg #[c0,c1,c2,c3,c4,c5,c6,c7]).cells.toList.drop i).take (Tryz.prog.cellsOf t)=[c])->∀ f:Field,f.type=t->f.offset=i->(∀ (h:DataW.trod enc Tryz.prog w 0 (fun _=>true) true n f.type (((Value.agg #[c0,c1,c2,c3,c4,c5,c6,c7]).cells.toList.drop f.offset).take (Tryz.prog.cellsOf f.type))=xs[i]?),∃ x,DataW.trod enc Tryz.prog w 0 (fun _=>true) true n t [c]=some x):=by
  intro t ht i hi c hc f e1 e2 h;subst e1 e2;rw [hc] at h;have hl:f.offset<xs.length:=by rw [hlen];exact hi
  rw [List.getElem?_eq_getElem hl] at h;exact⟨_,h⟩
 obtain⟨y0,t0⟩:=one 3 (by kernel_rfl) 0 (by omega) c0 (by rw [show Tryz.prog.cellsOf 3=1 by kernel_rfl];rfl) _ rfl rfl (hfld 0 _ rfl);obtain⟨y1,t1⟩:=one 9 (by kernel_rfl) 1 (by omega) c1 (by rw [show Tryz.prog.cellsOf 9=1 by kernel_rfl];rfl) _ rfl rfl (hfld 1 _ rfl);obtain⟨y2,t2⟩:=one 25 (by kernel_rfl) 2 (by omega) c2 (by rw [show Tryz.prog.cellsOf 25=1 by kernel_rfl];rfl) _ rfl rfl (hfld 2 _ rfl);obtain⟨y3,t3⟩:=one 26 (by kernel_rfl) 3 (by omega) c3 (by rw [show Tryz.prog.cellsOf 26=1 by kernel_rfl];rfl) _ rfl rfl (hfld 3 _ rfl);obtain⟨y4,t4⟩:=one 9 (by kernel_rfl) 4 (by omega) c4 (by rw [show Tryz.prog.cellsOf 9=1 by kernel_rfl];rfl) _ rfl rfl (hfld 4 _ rfl);obtain⟨y5,t5⟩:=one 27 (by kernel_rfl) 5 (by omega) c5 (by rw [show Tryz.prog.cellsOf 27=1 by kernel_rfl];rfl) _ rfl rfl (hfld 5 _ rfl);obtain⟨y6,t6⟩:=one 27 (by kernel_rfl) 6 (by omega) c6 (by rw [show Tryz.prog.cellsOf 27=1 by kernel_rfl];rfl) _ rfl rfl (hfld 6 _ rfl);obtain⟨y7,t7⟩:=one 28 (by kernel_rfl) 7 (by omega) c7 (by rw [show Tryz.prog.cellsOf 28=1 by kernel_rfl];rfl) _ rfl rfl (hfld 7 _ rfl);obtain⟨z,q0,-,-⟩:=DataW.trod_int Tryz.underlying3 t0;obtain⟨tb,q1,-,hs1⟩:=DataW.trod_string Tryz.underlying9 t1;obtain⟨a2,n2,d2,C,rfl,h2⟩:=open_cols t2;obtain⟨a3,n3,d3,V,rfl,h3,j3⟩:=open_vals t3;obtain⟨col,q4,-,hs4⟩:=DataW.trod_string Tryz.underlying9 t4;obtain⟨a5,n5,d5,E,rfl,h5,j5⟩:=open_itms t5;obtain⟨a6,n6,d6,X,rfl,h6,-⟩:=open_itms t6;obtain⟨a7,n7,d7,m7,O,rfl,h7⟩:=open_outs t7;obtain rfl:c0=.int .i64 z:=by simpa using q0
 obtain rfl:c1=.string tb:=by simpa using q1
 obtain rfl:c4=.string col:=by simpa using q4
 unfold maxLen at hs1 hs4;exact⟨⟨z,tb,n2,C,n3,V,col,n5,E,n6,X,n7,m7,O⟩,⟨a2,d2,a3,d3,a5,d5,a6,d6,a7,d7⟩,rfl,⟨by omega,by omega,h2,h3,h5,h6,h7⟩,⟨fun i _=>j3 i,fun i _=>j5 i⟩⟩
theorem open_rows{H:Type}{enc:TypeId×Value->H}{w:World}{fuel:Nat}{v:Value}{x:DataW H×List MemPlace}
 (h:DataW.trod enc Tryz.prog w 0 (fun _=>true) true fuel 97 [v]=some x):∃ a n c m O,v=.slice a n c/\OX w a n m O/\∀ k,k<n->∀ j,rg (O k j).m:=by
 rcases open_slice1 Tryz.underlying97 (by kernel_rfl) h with ⟨hcs,-⟩ | ⟨a,len,cap,m,n,V,D,Pl,hcs,_,hl,hm,hmm,-,hx⟩
 ·
  simp at hcs
  subst hcs;exact⟨_,_,_,fun _=>0,fun _ _=>⟨0,0,ByteArray.empty⟩,rfl,⟨Nat.zero_le _,fun k hk=>absurd hk (Nat.not_lt_zero _)⟩,fun k hk=>absurd hk (Nat.not_lt_zero _)⟩
 ·
  simp at hcs
  subst hcs;simp only [if_true] at hmm
  subst hmm;obtain⟨b,off,spot⟩:=a;unfold maxLen at hm;obtain⟨R,hR⟩:=@choose_lt Row1 ⟨⟨none,0,0,fun _=>⟨0,0,ByteArray.empty⟩⟩⟩ m (fun i r=>V i=.slice r.a r.n r.c/\IX w r.a r.n r.I/\∀ k,rg (r.I k).m) (fun i hi=>by
   obtain⟨a,n,c,I,e,hI,hg⟩:=open_vals (hx i hi).2;exact⟨⟨a,n,c,I⟩,e,hI,hg⟩)
  refine⟨_,_,_,fun k=>(R k).n,fun k=>(R k).I,rfl,⟨by omega,fun k hk=>⟨b,off,(R k).a,(R k).c,?_,?_,(hR k (by omega)).2.1⟩⟩,fun k hk=>(hR k (by omega)).2.2⟩
  ·
   have hspot:spot=none:=by simpa [Addr.add] using World.cell?_spot (hx 0 (by omega)).1
   rw [hspot]
  ·
   have hspot:spot=none:=by simpa [Addr.add] using World.cell?_spot (hx 0 (by omega)).1
   subst hspot;rw [←add_plain,←(hR k (by omega)).1];exact(hx k (by omega)).1
structure Tdp where
 d:Td
 ac:Option Addr
 cc:Nat
 ar:Option Addr
 cr:Nat
theorem open_tabs{H:Type}{enc:TypeId×Value->H}{w:World}{fuel:Nat}{v:Value}{x:DataW H×List MemPlace}
 (h:DataW.trod enc Tryz.prog w 0 (fun _=>true) true fuel 22 [v]=some x):∃ a n c T,v=.slice a n c/\TX w a n T/\∀ k,k<n->∀ i,i<(T k).r->∀ j,rg ((T k).R i j).m:=by
 have cs:Tryz.prog.cellsOf 9=1:=by kernel_rfl
 have cc:Tryz.prog.cellsOf 25=1:=by kernel_rfl
 have cr:Tryz.prog.cellsOf 97=1:=by kernel_rfl
 have ce:Tryz.prog.cellsOf 99=3:=by kernel_rfl
 rcases open_slice Tryz.underlying22 h with ⟨hcs,-⟩ | ⟨a,len,cap,m,n,D,Pl,hcs,_,hl,hm,hmm,-,hx⟩
 ·
  simp at hcs
  subst hcs;exact⟨_,_,_,fun _=>⟨ByteArray.empty,0,fun _=>⟨ByteArray.empty,0⟩,0,fun _=>0,fun _ _=>⟨0,0,ByteArray.empty⟩⟩,rfl,⟨Nat.zero_le _,fun k hk=>absurd hk (Nat.not_lt_zero _)⟩,fun k hk=>absurd hk (Nat.not_lt_zero _)⟩
 ·
  simp at hcs
  subst hcs;simp only [if_true] at hmm
  subst hmm;obtain⟨b,off,spot⟩:=a;unfold maxLen at hm;obtain⟨I,hI⟩:=@choose_lt Tdp ⟨⟨⟨ByteArray.empty,0,fun _=>⟨ByteArray.empty,0⟩,0,fun _=>0,fun _ _=>⟨0,0,ByteArray.empty⟩⟩,none,0,none,0⟩⟩ m (fun i c=>w.cell? ((⟨b,off,spot⟩:Addr).add (i * 3))=some (.string c.d.s)/\w.cell? ((⟨b,off,spot⟩:Addr).add (i * 3+1))=some (.slice c.ac c.d.n c.cc)/\w.cell? ((⟨b,off,spot⟩:Addr).add (i * 3+2))=some (.slice c.ar c.d.r c.cr)/\c.d.s.size<=9223372036854775807/\CX w c.ac c.d.n c.d.C/\OX w c.ar c.d.r c.d.m c.d.R/\∀ k,k<c.d.r->∀ j,rg (c.d.R k j).m) (fun i hi=>by
   obtain⟨cs',h1,h2⟩:=hx i hi;rw [ce] at h1;obtain⟨_,hlen,hcell⟩:=World.cells?_some h1;obtain⟨y0,y1,y2,k,-,-,g0,g1,g2⟩:=trod_struct3 Tryz.underlying99 h2;obtain⟨v0,v1,v2,rfl⟩:=list3 hlen;have q0:=hcell 0 (by omega);have q1:=hcell 1 (by omega);have q2:=hcell 2 (by omega);rw [add_add] at q0 q1 q2;simp [cs] at g0
   simp [cc] at g1
   simp [cr] at g2
   obtain⟨s,r0,-,hs⟩:=DataW.trod_string Tryz.underlying9 g0;obtain⟨ac,n1,c1,C,rfl,hC⟩:=open_cols g1;obtain⟨ar,n2,c2,m2,R,rfl,hR,hRg⟩:=open_rows g2;simp at r0 q0 q1 q2
   unfold maxLen at hs;exact⟨⟨⟨s,n1,C,n2,m2,R⟩,ac,c1,ar,c2⟩,by rw [←r0];exact q0,q1,q2,by show s.size<=_;omega,hC,hR,hRg⟩)
  refine⟨_,_,_,fun k=>(I k).d,rfl,⟨by omega,fun k hk=>⟨b,off,(I k).ac,(I k).cc,(I k).ar,(I k).cr,?_,?_,?_,?_,(hI k (by omega)).2.2.2.1,(hI k (by omega)).2.2.2.2.1,(hI k (by omega)).2.2.2.2.2.1⟩⟩,fun k hk=>(hI k (by omega)).2.2.2.2.2.2⟩
  ·
   have hspot:spot=none:=by simpa [Addr.add] using World.cell?_spot (hI 0 (by omega)).1
   rw [hspot]
  all_goals
   have hspot:spot=none:=by simpa [Addr.add] using World.cell?_spot (hI 0 (by omega)).1
   subst hspot
  · rw [←add_plain];exact(hI k (by omega)).1
  · rw [Nat.add_assoc,←add_plain];exact(hI k (by omega)).2.1
  · rw [Nat.add_assoc,←add_plain];exact(hI k (by omega)).2.2.1
theorem array1{α:Type}{cs:Array α}(h:cs.size=1):∃ c0,cs=#[c0]:=by
 obtain⟨l⟩:=cs;match l,h with
 | [c0],_=>exact⟨c0,rfl⟩
theorem open_db{H:Type}{enc:TypeId×Value->H}{w:World}{base:Nat}{v:Value}{d:DataW H}{p:List MemPlace}(hv:Value.okWide Tryz.prog w .any base 24 v)
 (h:DataW.Trod enc Tryz.prog w 0 (fun _=>true) true 24 v d p):∃ a n c T,v=.agg #[.slice a n c]/\TX w a n T/\∀ k,k<n->∀ i,i<(T k).r->∀ j,rg ((T k).R i j).m:=by
 obtain⟨cs,rfl,hsz⟩:=okWide_struct Tryz.underlying24 hv;obtain⟨c0,rfl⟩:=array1 (hsz.trans (by kernel_rfl));obtain⟨fuel,hf⟩:=h;obtain⟨xs,n,-,-,-,hlen,hfld⟩:=DataW.trod_struct Tryz.underlying24 hf;have h1:=hfld 0 _ rfl;have hl:0<xs.length:=by rw [hlen];exact Nat.zero_lt_one
 rw [List.getElem?_eq_getElem hl] at h1;have h2:DataW.trod enc Tryz.prog w 0 (fun _=>true) true n 22 [c0]=some xs[0]:=by
  rw [←h1];rfl
 obtain⟨a,n2,c,T,rfl,hT⟩:=open_tabs h2;exact⟨a,n2,c,T,rfl,hT⟩
set_option maxRecDepth 100000
theorem contractAp(H:Type)(enc:TypeId×Value->H)(W:World)(base:Nat)(args:Array Value)(ds gs:List (DataW H))(before:List MemPlace)
 (hval:∀ (j:Nat) t v,Tryz.f4.params[j]?=some t->args[j]?=some v->Value.okWide Tryz.prog W .any base t v)
 (hW:DataW.Whole enc Tryz.prog Tryz.f4.params.toList Rows.fnExactApplyStmSpec.vars false W args.toList ds gs before) (hL:laidMetH Tryz.prog Rows.fnExactApplyStmRow.laid W) :
 Calls Tryz.prog 4 args W fun e W'=>∃ v,e=.returned v/\Rows.fnExactApplyStmSpec.post enc Tryz.prog Tryz.f4 false true false false W args v W':=by
 have hW':=hW;obtain⟨p,q,hA0,hV,rfl,hfz,hnd⟩:=hW;have hA:DataW.TrodAll enc Tryz.prog W 0 (fun _=>true) true Tryz.f4.params.toList args.toList ds p:=hA0;rw [Tryz.params4] at hA hval;obtain⟨v0,vs0,d0,ds0,p0,q0,hargs,rfl,rfl,h0,r0⟩:=trodAll_cons hA;obtain⟨v1,vs1,d1,ds1,p1,q1,rfl,rfl,rfl,h1,r1⟩:=trodAll_cons r0;obtain⟨rfl,rfl,rfl⟩:=trodAll_nil r1;obtain rfl:args=#[v0,v1]:=by cases args;simp_all
 obtain⟨rfl,rfl⟩:=trodVars_none hV;have h0k:=h0;have h1k:=h1;obtain⟨a,n,c,T,rfl,hX,hRg⟩:=open_db (hval 0 24 v0 rfl rfl) h0;obtain⟨D,P,rfl,hS,hRD⟩:=open_stm (hval 1 30 v1 rfl rfl) h1;clear hA0;simp only [List.append_nil] at hW'
 have hlt:∀ x∈p0 ++ p1,x.block<W.heap.size:=fun x hx=>by simpa using hW'.lt x hx
 have hlt0:∀ x∈p0,x.block<W.heap.size:=fun x hx=>hlt x (List.mem_append_left _ hx);have hlt1:∀ x∈p1,x.block<W.heap.size:=fun x hx=>hlt x (List.mem_append_right _ hx);refine(lawAp a n c T D P W hX hS (spt_of hL) hRg hRD).mono fun e W' ⟨he,bel⟩=>?_;subst he;exact⟨_,rfl,_,_,_,[],_,[],hW',trodAll_mk1 (shut_bool Tryz.underlying4 _),(trodAll_cons_mk (Below.trod lawLaidOut (by kernel_rfl) (of_decide_eq_true (by kernel_rfl)) h0k bel hlt0) (trodAll_cons_mk (Below.trod lawLaidOut (by kernel_rfl) (of_decide_eq_true (by kernel_rfl)) h1k bel hlt1) trodAll_mk0)),bel.trodVars lawLaidOut (by kernel_rfl) hV,bel.frame _,fun h=>by cases h⟩
theorem laid_metAp(os:Os):laidMet Tryz.prog Rows.fnExactApplyStmRow.laid (({ (World.holding Tryz.prog os ⟨#[.cells (Lib.whiteT.map fun (z:Nat)=>Value.int .u16 (z:Int)).toArray 247,.cells #[.slice (some ⟨(World.settled Tryz.prog os).heap.size,0,none⟩) 7 7,.slice none 0 0,.int .i64 2] 244],#[],[]⟩) with heap:=((World.holding Tryz.prog os ⟨#[.cells (Lib.whiteT.map fun (z:Nat)=>Value.int .u16 (z:Int)).toArray 247,.cells #[.slice (some ⟨(World.settled Tryz.prog os).heap.size,0,none⟩) 7 7,.slice none 0 0,.int .i64 2] 244],#[],[]⟩).heap.modify 0 fun _=>.cells (Lib.asciiSpaceTab.map fun z=>Value.int .u8 z).toArray 190 (0,0)).modify 1 fun _=>.cells #[.pointer (some ⟨(World.settled Tryz.prog os).heap.size+1,0,none⟩)] 223 (0,0) }:World).forCall (fun _ _=>0) ⟨#[],#[.agg #[.slice none 0 0],.agg #[.int .i64 0,.string ByteArray.empty,.slice none 0 0,.slice none 0 0,.string ByteArray.empty,.slice none 0 0,.slice none 0 0,.slice none 0 0]],[]⟩).memory:=
 laidMet_of_run3 10 (by kernel_rfl) (by kernel_rfl) (by kernel_rfl)
theorem witnessAp(os:Os){H:Type}(enc:TypeId×Value->H):(OpenSpec.ofChange Rows.fnExactApplyStmSpec).preRow enc Tryz.prog Tryz.f4 Rows.fnExactApplyStmRow.domain false Rows.fnExactApplyStmRow.laid (({ (World.holding Tryz.prog os ⟨#[.cells (Lib.whiteT.map fun (z:Nat)=>Value.int .u16 (z:Int)).toArray 247,.cells #[.slice (some ⟨(World.settled Tryz.prog os).heap.size,0,none⟩) 7 7,.slice none 0 0,.int .i64 2] 244],#[],[]⟩) with heap:=((World.holding Tryz.prog os ⟨#[.cells (Lib.whiteT.map fun (z:Nat)=>Value.int .u16 (z:Int)).toArray 247,.cells #[.slice (some ⟨(World.settled Tryz.prog os).heap.size,0,none⟩) 7 7,.slice none 0 0,.int .i64 2] 244],#[],[]⟩).heap.modify 0 fun _=>.cells (Lib.asciiSpaceTab.map fun z=>Value.int .u8 z).toArray 190 (0,0)).modify 1 fun _=>.cells #[.pointer (some ⟨(World.settled Tryz.prog os).heap.size+1,0,none⟩)] 223 (0,0) }:World).forCall (fun _ _=>0) ⟨#[],#[.agg #[.slice none 0 0],.agg #[.int .i64 0,.string ByteArray.empty,.slice none 0 0,.slice none 0 0,.string ByteArray.empty,.slice none 0 0,.slice none 0 0,.slice none 0 0]],[]⟩).memory #[.agg #[.slice none 0 0],.agg #[.int .i64 0,.string ByteArray.empty,.slice none 0 0,.slice none 0 0,.string ByteArray.empty,.slice none 0 0,.slice none 0 0,.slice none 0 0]]:=by
 have hw:(DataW.whole enc Tryz.prog (({ (World.holding Tryz.prog os ⟨#[.cells (Lib.whiteT.map fun (z:Nat)=>Value.int .u16 (z:Int)).toArray 247,.cells #[.slice (some ⟨(World.settled Tryz.prog os).heap.size,0,none⟩) 7 7,.slice none 0 0,.int .i64 2] 244],#[],[]⟩) with heap:=((World.holding Tryz.prog os ⟨#[.cells (Lib.whiteT.map fun (z:Nat)=>Value.int .u16 (z:Int)).toArray 247,.cells #[.slice (some ⟨(World.settled Tryz.prog os).heap.size,0,none⟩) 7 7,.slice none 0 0,.int .i64 2] 244],#[],[]⟩).heap.modify 0 fun _=>.cells (Lib.asciiSpaceTab.map fun z=>Value.int .u8 z).toArray 190 (0,0)).modify 1 fun _=>.cells #[.pointer (some ⟨(World.settled Tryz.prog os).heap.size+1,0,none⟩)] 223 (0,0) }:World).forCall (fun _ _=>0) ⟨#[],#[.agg #[.slice none 0 0],.agg #[.int .i64 0,.string ByteArray.empty,.slice none 0 0,.slice none 0 0,.string ByteArray.empty,.slice none 0 0,.slice none 0 0,.slice none 0 0]],[]⟩).memory Tryz.f4.params.toList Rows.fnExactApplyStmSpec.vars false #[.agg #[.slice none 0 0],.agg #[.int .i64 0,.string ByteArray.empty,.slice none 0 0,.slice none 0 0,.string ByteArray.empty,.slice none 0 0,.slice none 0 0,.slice none 0 0]].toList 8).map (fun x=>(x.1,x.2.1))=some ([.agg [.nil],.agg [.lit (.int .i64 0),.lit (.string []),.nil,.nil,.lit (.string []),.nil,.nil,.nil]],[]):=by kernel_rfl
 obtain⟨⟨x1,x2,x3⟩,hx,hx1⟩:=Option.map_eq_some_iff.1 hw;simp only [Prod.mk.injEq] at hx1
 obtain⟨rfl,rfl⟩:=hx1;exact OpenSpec.preRow_of_cond 8 hx (by kernel_rfl) (fun k hk=>by cases hk) (by kernel_rfl) (laid_metAp os)
theorem liftedAp(os:Os)(started:os.Started)(H:Type)(enc:TypeId×Value->H)(F:Stop.Interp) :
 ReturnsInHanded {} Tryz.checked os 4 .any ((OpenSpec.ofChange Rows.fnExactApplyStmSpec).preRow enc Tryz.prog Tryz.f4 Rows.fnExactApplyStmRow.domain false Rows.fnExactApplyStmRow.laid) (((OpenSpec.ofChange Rows.fnExactApplyStmSpec).at F).post enc Tryz.prog Tryz.f4 false true false false):=by
 refine returnsInHanded_of_row (C:=Tryz.checked) (s:=OpenSpec.ofChange Rows.fnExactApplyStmSpec) lawOwn started (by kernel_rfl) Tryz.func4
  (witness_row_atRef (enc:=enc) (C:=Tryz.checked) false ({ (World.holding Tryz.prog os ⟨#[.cells (Lib.whiteT.map fun (z:Nat)=>Value.int .u16 (z:Int)).toArray 247,.cells #[.slice (some ⟨(World.settled Tryz.prog os).heap.size,0,none⟩) 7 7,.slice none 0 0,.int .i64 2] 244],#[],[]⟩) with heap:=((World.holding Tryz.prog os ⟨#[.cells (Lib.whiteT.map fun (z:Nat)=>Value.int .u16 (z:Int)).toArray 247,.cells #[.slice (some ⟨(World.settled Tryz.prog os).heap.size,0,none⟩) 7 7,.slice none 0 0,.int .i64 2] 244],#[],[]⟩).heap.modify 0 fun _=>.cells (Lib.asciiSpaceTab.map fun z=>Value.int .u8 z).toArray 190 (0,0)).modify 1 fun _=>.cells #[.pointer (some ⟨(World.settled Tryz.prog os).heap.size+1,0,none⟩)] 223 (0,0) }:World) #[.agg #[.slice none 0 0],.agg #[.int .i64 0,.string ByteArray.empty,.slice none 0 0,.slice none 0 0,.string ByteArray.empty,.slice none 0 0,.slice none 0 0,.slice none 0 0]] rfl (by kernel_rfl) (by kernel_rfl) (by kernel_rfl) (witnessAp os enc)) ?_
 intro W base args ds gs before hval hW _ _ _ hL _ _;exact contractAp H enc W base args ds gs before hval hW hL
theorem saidAp:Rows.FnExactApplyStmSaid:=
 OpenClaim.holds_of_cond 4 Tryz.f4 rfl rfl rfl rfl rfl rfl rfl ⟨rfl,rfl,rfl,rfl,rfl⟩ rfl rfl rfl rfl rfl (by kernel_rfl) Tryz.func4 (by kernel_rfl)
  (of_decide_eq_true (by kernel_rfl)) (by unfold Func.isWrapper;first | (rw [if_pos (by decide +kernel)];kernel_rfl) | (rw [if_neg (by decide +kernel)];exact⟨rfl,rfl⟩))
  (fun os started H enc _ F=>by rw [OpenClaim.pre_eq_preRow];exact liftedAp os started H enc F)
theorem plainAp(f:FuncId)(fn:Func)(hf:Tryz.pinned.checked.prog.funcNamed "loop.example/s02884/laws.FnExactApplyStm"=some f)(hfn:Tryz.pinned.checked.prog.funcs[f]?=some fn) :
 false=Tryz.pinned.checked.prog.looks []/\∀ (j:Nat) t,fn.params[j]?=some t->Tryz.pinned.checked.prog.wantsStandIn t=false:=by
 obtain rfl:f=4:=Option.some.inj ((show Tryz.prog.funcNamed "loop.example/s02884/laws.FnExactApplyStm"=some 4 by kernel_rfl).symm.trans hf) |>.symm;obtain rfl:fn=Tryz.f4:=(Option.some.inj (Tryz.func4.symm.trans hfn)).symm;refine⟨by kernel_rfl,fun j t ht=>?_⟩;rw [Tryz.params4] at ht;have hm:t=24∨t=30:=by simpa using Array.mem_of_getElem? ht
 rcases hm with rfl | rfl
 · exact(show Tryz.prog.wantsStandIn 24=false by kernel_rfl)
 · exact(show Tryz.prog.wantsStandIn 30=false by kernel_rfl)
theorem ap_card:Rows.FnExactApplyStmCardSaid:=
 Claim7.holds_tied_plain_at .later [] _ _ _ _ saidAp (fun _ h=>by cases h) (by kernel_rfl) (fun _ h=>by cases h) fnExactApplyStm_row_tie rfl ⟨rfl,rfl⟩ (by kernel_rfl) rfl plainAp (by kernel_rfl)
#print axioms ap_card
end Go.Proofs.YtgeiamgeclbiaaaGreatDoor
