import Derived.Test.YtfnfdllflgmhnaaGreatDoorZi
import Derived.OpenShut
import Derived.ShutString
import Derived.Deep.Slices
import Derived.Deep.SlicePairs
import Derived.Deep.Strs
import Derived.Carry
import Derived.Lib.SmallJoins
import Derived.Test.YtfnfdllflgmhnaaGreatDoorCards
import Derived.Test.YtfnfdllflgmhnaaGreatDoorTie
import Derived.Test.YtfnfdllflgmhnaaGreatDoorNg
import Derived.Deep.DeepHandedRow
import Derived.Deep.DeepWitnessRowRef
import Derived.Deep.DeepLaidRun
import Derived.Lib.LaidTab
import Derived.Lib.SpaceR
import Derived.Stop.LaidErr
import Derived.OpenVars
import Derived.ChangeMaps5
open Array renaming getElem?_eq_some_iff → XS
open ByteArray renaming empty → XN
open Go renaming Value → XU, World → ο, Calls → XR
open Go.IntKind renaming i64 → κ
open Go.Obj renaming cells → γ
open Go.Proofs.Tryz renaming prog → μ
open Go.Value renaming agg → χ, bool → β, int → ι, pointer → ψ, slice → σ, string → τ
open Nat renaming not_lt_zero → Xj, zero_le → XZ
open Option renaming none → ν, some → ς
open Option.some renaming inj → XM
namespace Go.Proofs.YtfnfdllflgmhnaaGreatDoor
open Go.ChangeShapes Go.WideShapes Go.ChangeAt Go.RowKit Go.Deep Go.Joins
set_option maxRecDepth 20000
theorem Kz{H:Type}{enc:TypeId×XU->H}{w:ο}{fuel:Nat}{v:XU}{x:DataW H×List MemPlace}
 (h:DataW.trod enc μ w 0 (λ_=>true) true fuel 129 [v]=ς x):∃ a n c C,v=.slice a n c/\CX w a n C:=by
 rcases open_slice_pairs Tryz.underlying129 Tryz.underlying237 (by kernel_rfl) rfl rfl (by kernel_rfl) (by kernel_rfl) h with ⟨hcs,-⟩ | ⟨a,len,cap,m,n,V0,V1,D0,D1,P0,P1,hcs,_,hl,hm,hmm,-,hcell⟩
 ·
  simp at hcs
  subst hcs;exact⟨_,_,_,λ_=>⟨XN,0⟩,rfl,XZ _,λk hk=>absurd hk (Xj _)⟩
 ·
  simp at hcs
  subst hcs;simp only [if_true] at hmm
  subst hmm;obtain⟨b,off,spot⟩:=a;unfold maxLen at hm;obtain⟨C,hC⟩:=@choose_lt Clm ⟨⟨XN,0⟩⟩ m (λi c=>V0 i=.string c.s/\V1 i=.int .i64 c.t/\c.s.size<=9223372036854775807) (λi hi=>by
   obtain⟨-,-,t0,t1⟩:=hcell i hi;obtain⟨s,e0,-,hs⟩:=DataW.trod_string Tryz.underlying9 t0;obtain⟨z,e1,-,-⟩:=DataW.trod_int Tryz.underlying3 t1;unfold maxLen at hs;exact⟨⟨s,z⟩,by simpa using e0,by simpa using e1,by omega⟩)
  refine⟨_,_,_,C,rfl,by omega,λk hk=>⟨b,off,?_,?_,?_,(hC k (by omega)).2.2⟩⟩
  ·
   have hspot:spot=ν:=by simpa [Addr.add] using World.cell?_spot (hcell 0 (by omega)).1
   rw [hspot]
  ·
   have hspot:spot=ν:=by simpa [Addr.add] using World.cell?_spot (hcell 0 (by omega)).1
   subst hspot;rw [←add_plain,←(hC k (by omega)).1];exact(hcell k (by omega)).1
  ·
   have hspot:spot=ν:=by simpa [Addr.add] using World.cell?_spot (hcell 0 (by omega)).1
   subst hspot;rw [Nat.add_assoc,←add_plain,←(hC k (by omega)).2.1];exact(hcell k (by omega)).2.1
theorem M6{α:Type}{l:List α}(h:l.length=3):∃ a b c,l=[a,b,c]:=by
 match l,h with
 | [a,b,c],_=>exact⟨a,b,c,rfl⟩
theorem I8{H:Type}{enc:TypeId×XU->H}{w:ο}{fuel:Nat}{v:XU}{x:DataW H×List MemPlace}{t e:TypeId}{f0 f1 f2:Field}(ht:Tryz.prog.underlying t=ς (.slice e))(he:Tryz.prog.underlying e=ς (.struct #[f0,f1,f2]))
 (ce:Tryz.prog.cellsOf e=3) (o0:f0.offset=0) (o1:f1.offset=1) (o2:f2.offset=2) (e0:f0.type=3) (e1:f1.type=3) (e2:f2.type=9)
 (h:DataW.trod enc μ w 0 (λ_=>true) true fuel t [v]=ς x):∃ a n c I,v=.slice a n c/\IX w a n I:=by
 have ci:Tryz.prog.cellsOf 3=1:=by kernel_rfl
 have cs:Tryz.prog.cellsOf 9=1:=by kernel_rfl
 rcases open_slice ht h with ⟨hcs,-⟩ | ⟨a,len,cap,m,n,D,Pl,hcs,_,hl,hm,hmm,-,hx⟩
 ·
  simp at hcs
  subst hcs;exact⟨_,_,_,λ_=>⟨0,0,XN⟩,rfl,XZ _,λk hk=>absurd hk (Xj _)⟩
 ·
  simp at hcs
  subst hcs;simp only [if_true] at hmm
  subst hmm;obtain⟨b,off,spot⟩:=a;unfold maxLen at hm;obtain⟨I,hI⟩:=@choose_lt Itm ⟨⟨0,0,XN⟩⟩ m (λi c=>w.cell? ((⟨b,off,spot⟩:Addr).add (i * 3))=ς (.int .i64 c.o)/\w.cell? ((⟨b,off,spot⟩:Addr).add (i * 3+1))=ς (.int .i64 c.m)/\w.cell? ((⟨b,off,spot⟩:Addr).add (i * 3+2))=ς (.string c.s)/\c.s.size<=9223372036854775807) (λi hi=>by
   obtain⟨cs',h1,h2⟩:=hx i hi;rw [ce] at h1;obtain⟨_,hlen,hcell⟩:=World.cells?_some h1;obtain⟨y0,y1,y2,k,-,-,g0,g1,g2⟩:=trod_struct3 he h2;obtain⟨v0,v1,v2,rfl⟩:=M6 hlen;have q0:=hcell 0 (by omega);have q1:=hcell 1 (by omega);have q2:=hcell 2 (by omega);rw [add_add] at q0 q1 q2;simp [o0,e0,ci] at g0
   simp [o1,e1,ci] at g1
   simp [o2,e2,cs] at g2
   obtain⟨z0,r0,-,-⟩:=DataW.trod_int Tryz.underlying3 g0;obtain⟨z1,r1,-,-⟩:=DataW.trod_int Tryz.underlying3 g1;obtain⟨s,r2,-,hs⟩:=DataW.trod_string Tryz.underlying9 g2;simp at r0 r1 r2 q0 q1 q2
   unfold maxLen at hs;exact⟨⟨z0,z1,s⟩,by rw [←r0];exact q0,by rw [←r1];exact q1,by rw [←r2];exact q2,by omega⟩)
  refine⟨_,_,_,I,rfl,by omega,λk hk=>⟨b,off,?_,?_,?_,?_,(hI k (by omega)).2.2.2⟩⟩
  ·
   have hspot:spot=ν:=by simpa [Addr.add] using World.cell?_spot (hI 0 (by omega)).1
   rw [hspot]
  all_goals
   have hspot:spot=ν:=by simpa [Addr.add] using World.cell?_spot (hI 0 (by omega)).1
   subst hspot
  · rw [←add_plain];exact(hI k (by omega)).1
  · rw [Nat.add_assoc,←add_plain];exact(hI k (by omega)).2.1
  · rw [Nat.add_assoc,←add_plain];exact(hI k (by omega)).2.2.1
theorem Kw{H:Type}{enc:TypeId×XU->H}{w:ο}{fuel:Nat}{v:XU}{x:DataW H×List MemPlace}
 (h:DataW.trod enc μ w 0 (λ_=>true) true fuel 239 [v]=ς x):∃ a n c I,v=.slice a n c/\IX w a n I:=
 I8 Tryz.underlying239 Tryz.underlying267 (by kernel_rfl) rfl rfl rfl rfl rfl rfl h
structure Row1 where
 a:Option Addr
 n:Nat
 c:Nat
 I:Nat->Itm
theorem Ky{H:Type}{enc:TypeId×XU->H}{w:ο}{fuel:Nat}{v:XU}{x:DataW H×List MemPlace}
 (h:DataW.trod enc μ w 0 (λ_=>true) true fuel 130 [v]=ς x):∃ a n c m O,v=.slice a n c/\OX w a n m O:=by
 rcases open_slice1 Tryz.underlying130 (by kernel_rfl) h with ⟨hcs,-⟩ | ⟨a,len,cap,m,n,V,D,Pl,hcs,_,hl,hm,hmm,-,hx⟩
 ·
  simp at hcs
  subst hcs;exact⟨_,_,_,λ_=>0,λ_ _=>⟨0,0,XN⟩,rfl,XZ _,λk hk=>absurd hk (Xj _)⟩
 ·
  simp at hcs
  subst hcs;simp only [if_true] at hmm
  subst hmm;obtain⟨b,off,spot⟩:=a;unfold maxLen at hm;obtain⟨R,hR⟩:=@choose_lt Row1 ⟨⟨ν,0,0,λ_=>⟨0,0,XN⟩⟩⟩ m (λi r=>V i=.slice r.a r.n r.c/\IX w r.a r.n r.I) (λi hi=>by
   obtain⟨a,n,c,I,e,hI⟩:=Kw (hx i hi).2;exact⟨⟨a,n,c,I⟩,e,hI⟩)
  refine⟨_,_,_,λk=>(R k).n,λk=>(R k).I,rfl,by omega,λk hk=>⟨b,off,(R k).a,(R k).c,?_,?_,(hR k (by omega)).2⟩⟩
  ·
   have hspot:spot=ν:=by simpa [Addr.add] using World.cell?_spot (hx 0 (by omega)).1
   rw [hspot]
  ·
   have hspot:spot=ν:=by simpa [Addr.add] using World.cell?_spot (hx 0 (by omega)).1
   subst hspot;rw [←add_plain,←(hR k (by omega)).1];exact(hx k (by omega)).1
structure Tdp where
 d:Td
 ac:Option Addr
 cc:Nat
 ar:Option Addr
 cr:Nat
theorem Kx{H:Type}{enc:TypeId×XU->H}{w:ο}{fuel:Nat}{v:XU}{x:DataW H×List MemPlace}
 (h:DataW.trod enc μ w 0 (λ_=>true) true fuel 28 [v]=ς x):∃ a n c T,v=.slice a n c/\TX w a n T:=by
 have cs:Tryz.prog.cellsOf 9=1:=by kernel_rfl
 have cc:Tryz.prog.cellsOf 129=1:=by kernel_rfl
 have cr:Tryz.prog.cellsOf 130=1:=by kernel_rfl
 have ce:Tryz.prog.cellsOf 132=3:=by kernel_rfl
 rcases open_slice Tryz.underlying28 h with ⟨hcs,-⟩ | ⟨a,len,cap,m,n,D,Pl,hcs,_,hl,hm,hmm,-,hx⟩
 ·
  simp at hcs
  subst hcs;exact⟨_,_,_,λ_=>⟨XN,0,λ_=>⟨XN,0⟩,0,λ_=>0,λ_ _=>⟨0,0,XN⟩⟩,rfl,XZ _,λk hk=>absurd hk (Xj _)⟩
 ·
  simp at hcs
  subst hcs;simp only [if_true] at hmm
  subst hmm;obtain⟨b,off,spot⟩:=a;unfold maxLen at hm;obtain⟨I,hI⟩:=@choose_lt Tdp ⟨⟨⟨XN,0,λ_=>⟨XN,0⟩,0,λ_=>0,λ_ _=>⟨0,0,XN⟩⟩,ν,0,ν,0⟩⟩ m (λi c=>w.cell? ((⟨b,off,spot⟩:Addr).add (i * 3))=ς (.string c.d.s)/\w.cell? ((⟨b,off,spot⟩:Addr).add (i * 3+1))=ς (.slice c.ac c.d.n c.cc)/\w.cell? ((⟨b,off,spot⟩:Addr).add (i * 3+2))=ς (.slice c.ar c.d.r c.cr)/\c.d.s.size<=9223372036854775807/\CX w c.ac c.d.n c.d.C/\OX w c.ar c.d.r c.d.m c.d.R) (λi hi=>by
   obtain⟨cs',h1,h2⟩:=hx i hi;rw [ce] at h1;obtain⟨_,hlen,hcell⟩:=World.cells?_some h1;obtain⟨y0,y1,y2,k,-,-,g0,g1,g2⟩:=trod_struct3 Tryz.underlying132 h2;obtain⟨v0,v1,v2,rfl⟩:=M6 hlen;have q0:=hcell 0 (by omega);have q1:=hcell 1 (by omega);have q2:=hcell 2 (by omega);rw [add_add] at q0 q1 q2;simp [cs] at g0
   simp [cc] at g1
   simp [cr] at g2
   obtain⟨s,r0,-,hs⟩:=DataW.trod_string Tryz.underlying9 g0;obtain⟨ac,n1,c1,C,rfl,hC⟩:=Kz g1;obtain⟨ar,n2,c2,m2,R,rfl,hR⟩:=Ky g2;simp at r0 q0 q1 q2
   unfold maxLen at hs;exact⟨⟨⟨s,n1,C,n2,m2,R⟩,ac,c1,ar,c2⟩,by rw [←r0];exact q0,q1,q2,by show s.size<=_;omega,hC,hR⟩)
  refine⟨_,_,_,λk=>(I k).d,rfl,by omega,λk hk=>⟨b,off,(I k).ac,(I k).cc,(I k).ar,(I k).cr,?_,?_,?_,?_,(hI k (by omega)).2.2.2.1,(hI k (by omega)).2.2.2.2.1,(hI k (by omega)).2.2.2.2.2⟩⟩
  ·
   have hspot:spot=ν:=by simpa [Addr.add] using World.cell?_spot (hI 0 (by omega)).1
   rw [hspot]
  all_goals
   have hspot:spot=ν:=by simpa [Addr.add] using World.cell?_spot (hI 0 (by omega)).1
   subst hspot
  · rw [←add_plain];exact(hI k (by omega)).1
  · rw [Nat.add_assoc,←add_plain];exact(hI k (by omega)).2.1
  · rw [Nat.add_assoc,←add_plain];exact(hI k (by omega)).2.2.1
theorem GJ{H:Type}{enc:TypeId×XU->H}{w:ο}{fuel:Nat}{v:XU}{x:DataW H×List MemPlace}{t e:TypeId}{f0 f1 f2:Field}(ht:Tryz.prog.underlying t=ς (.slice e))(he:Tryz.prog.underlying e=ς (.struct #[f0,f1,f2]))
 (ce:Tryz.prog.cellsOf e=3) (o0:f0.offset=0) (o1:f1.offset=1) (o2:f2.offset=2) (e0:f0.type=9) (e1:f1.type=9) (e2:f2.type=3)
 (h:DataW.trod enc μ w 0 (λ_=>true) true fuel t [v]=ς x):∃ a n c F,v=.slice a n c/\FX w a n F:=by
 have ci:Tryz.prog.cellsOf 3=1:=by kernel_rfl
 have cs:Tryz.prog.cellsOf 9=1:=by kernel_rfl
 rcases open_slice ht h with ⟨hcs,-⟩ | ⟨a,len,cap,m,n,D,Pl,hcs,_,hl,hm,hmm,-,hx⟩
 ·
  simp at hcs
  subst hcs;exact⟨_,_,_,λ_=>⟨XN,XN,0⟩,rfl,XZ _,λk hk=>absurd hk (Xj _)⟩
 ·
  simp at hcs
  subst hcs;simp only [if_true] at hmm
  subst hmm;obtain⟨b,off,spot⟩:=a;unfold maxLen at hm;obtain⟨I,hI⟩:=@choose_lt Fle ⟨⟨XN,XN,0⟩⟩ m (λi c=>w.cell? ((⟨b,off,spot⟩:Addr).add (i * 3))=ς (.string c.s)/\w.cell? ((⟨b,off,spot⟩:Addr).add (i * 3+1))=ς (.string c.d)/\w.cell? ((⟨b,off,spot⟩:Addr).add (i * 3+2))=ς (.int .i64 c.y)/\c.s.size<=9223372036854775807/\c.d.size<=9223372036854775807) (λi hi=>by
   obtain⟨cs',h1,h2⟩:=hx i hi;rw [ce] at h1;obtain⟨_,hlen,hcell⟩:=World.cells?_some h1;obtain⟨y0,y1,y2,k,-,-,g0,g1,g2⟩:=trod_struct3 he h2;obtain⟨v0,v1,v2,rfl⟩:=M6 hlen;have q0:=hcell 0 (by omega);have q1:=hcell 1 (by omega);have q2:=hcell 2 (by omega);rw [add_add] at q0 q1 q2;simp [o0,e0,cs] at g0
   simp [o1,e1,cs] at g1
   simp [o2,e2,ci] at g2
   obtain⟨z0,r0,-,hs0⟩:=DataW.trod_string Tryz.underlying9 g0;obtain⟨z1,r1,-,hs1⟩:=DataW.trod_string Tryz.underlying9 g1;obtain⟨s,r2,-,-⟩:=DataW.trod_int Tryz.underlying3 g2;simp at r0 r1 r2 q0 q1 q2
   unfold maxLen at hs0 hs1;exact⟨⟨z0,z1,s⟩,by rw [←r0];exact q0,by rw [←r1];exact q1,by rw [←r2];exact q2,by dsimp only;omega,by dsimp only;omega⟩)
  refine⟨_,_,_,I,rfl,by omega,λk hk=>⟨b,off,?_,?_,?_,?_,(hI k (by omega)).2.2.2⟩⟩
  ·
   have hspot:spot=ν:=by simpa [Addr.add] using World.cell?_spot (hI 0 (by omega)).1
   rw [hspot]
  all_goals
   have hspot:spot=ν:=by simpa [Addr.add] using World.cell?_spot (hI 0 (by omega)).1
   subst hspot
  · rw [←add_plain];exact(hI k (by omega)).1
  · rw [Nat.add_assoc,←add_plain];exact(hI k (by omega)).2.1
  · rw [Nat.add_assoc,←add_plain];exact(hI k (by omega)).2.2.1
theorem I9{H:Type}{enc:TypeId×XU->H}{w:ο}{fuel:Nat}{v:XU}{x:DataW H×List MemPlace}
 (h:DataW.trod enc μ w 0 (λ_=>true) true fuel 22 [v]=ς x):∃ a n c F,v=.slice a n c/\FX w a n F:=
 GJ Tryz.underlying22 Tryz.underlying127 (by kernel_rfl) rfl rfl rfl rfl rfl rfl h
theorem EF{H:Type}{enc:TypeId×XU->H}{w:ο}{fuel:Nat}{v:XU}{x:DataW H×List MemPlace}
 (h:DataW.trod enc μ w 0 (λ_=>true) true fuel 27 [v]=ς x):∃ a n c S,v=.slice a n c/\Sl w a n S:=by
 rcases open_strs Tryz.underlying27 Tryz.underlying9 (by kernel_rfl) h with ⟨hcs,hx⟩ | ⟨a,len,cap,m,Sx,hcs,_,hl,hm,hmm,hx,hcell⟩
 ·
  simp at hcs
  subst hcs;exact⟨_,_,_,λ_=>XN,rfl,XZ _,λk hk=>absurd hk (Xj _)⟩
 ·
  simp at hcs
  subst hcs;simp only [if_true] at hmm
  subst hmm;obtain⟨b,off,spot⟩:=a;unfold maxLen at hm hcell;refine⟨_,_,_,Sx,rfl,by omega,λk hk=>⟨by have:=(hcell k (by omega)).2;omega,b,off,?_,?_⟩⟩
  ·
   have hspot:spot=ν:=by simpa [Addr.add] using World.cell?_spot (hcell 0 (by omega)).1
   rw [hspot]
  ·
   have hspot:spot=ν:=by simpa [Addr.add] using World.cell?_spot (hcell 0 (by omega)).1
   subst hspot;rw [←add_plain];exact(hcell k (by omega)).1
theorem QI{α:Type}{cs:Array α}(h:cs.size=15):∃ c0 c1 c2 c3 c4 c5 c6 c7 c8 c9 c10 c11 c12 c13 c14,cs=#[c0,c1,c2,c3,c4,c5,c6,c7,c8,c9,c10,c11,c12,c13,c14]:=by
 obtain⟨l⟩:=cs;match l,h with
 | [c0,c1,c2,c3,c4,c5,c6,c7,c8,c9,c10,c11,c12,c13,c14],_=>exact⟨c0,c1,c2,c3,c4,c5,c6,c7,c8,c9,c10,c11,c12,c13,c14,rfl⟩
theorem Dv{H:Type}{enc:TypeId×XU->H}{w:ο}{fuel:Nat}{t:TypeId}{cs:List XU}{x:DataW H×List MemPlace}{fs:Array Field}(ht:Tryz.prog.underlying t=ς (.struct fs))(h:DataW.trod enc μ w 0 (λ_=>true) true fuel t cs=ς x) :
 ∃ n,∀ (i:Nat) (f:Field),fs[i]?=ς f->∃ y,DataW.trod enc μ w 0 (λ_=>true) true n f.type ((cs.drop f.offset).take (Tryz.prog.cellsOf f.type))=ς y:=by
 obtain⟨xs,n,-,-,-,hlen,hfld⟩:=DataW.trod_struct ht h;refine⟨n,λi f hi=>?_⟩;have hl:i<xs.length:=by rw [hlen];exact(XS.1 hi).1
 have h1:=hfld i f hi;rw [List.getElem?_eq_getElem hl] at h1;exact⟨_,h1⟩
theorem Mz{H:Type}{enc:TypeId×XU->H}{w:ο}{base:Nat}{v:XU}{d:DataW H}{p:List MemPlace}(hv:Value.okWide μ w .any base 34 v)
 (h:DataW.Trod enc μ w 0 (λ_=>true) true 34 v d p):∃ k0 k1 x1 x2 x3 x4 x5 l0 l1 ts up af nf cf F ae ne ce S ad nd cd T ap np cp U,v=.agg #[.int .i64 k0,.int .i64 k1,.slice af nf cf,.int .i64 x1,.int .i64 x2,.int .i64 x3,.int .i64 x4,.bool x5,.int .i64 l0,.int .i64 l1,.slice ae ne ce,.slice ad nd cd,.int .i64 ts,.slice ap np cp,.bool up]/\FX w af nf F/\Sl w ae ne S/\TX w ad nd T/\Sl w ap np U:=by
 obtain⟨cs,rfl,hsz⟩:=okWide_struct Tryz.underlying34 hv;obtain⟨c0,c1,c2,c3,c4,c5,c6,c7,c8,c9,c10,c11,c12,c13,c14,rfl⟩:=QI (hsz.trans (by kernel_rfl));obtain⟨fuel,hf⟩:=h;obtain⟨n,hfld⟩:=Dv Tryz.underlying34 hf;obtain⟨ya,ta⟩:∃ y,DataW.trod enc μ w 0 (λ_=>true) true n 3 [c0]=ς y:=hfld 0 _ rfl;obtain⟨yb,tb⟩:∃ y,DataW.trod enc μ w 0 (λ_=>true) true n 3 [c1]=ς y:=hfld 1 _ rfl;obtain⟨yF,tF⟩:∃ y,DataW.trod enc μ w 0 (λ_=>true) true n 24 [c2,c3,c4,c5,c6,c7]=ς y:=hfld 2 _ rfl;obtain⟨yL,tL⟩:∃ y,DataW.trod enc μ w 0 (λ_=>true) true n 26 [c8,c9]=ς y:=hfld 3 _ rfl;obtain⟨yE,tE⟩:∃ y,DataW.trod enc μ w 0 (λ_=>true) true n 27 [c10]=ς y:=hfld 4 _ rfl;obtain⟨yD,tD⟩:∃ y,DataW.trod enc μ w 0 (λ_=>true) true n 30 [c11]=ς y:=hfld 5 _ rfl;obtain⟨yT,tT⟩:∃ y,DataW.trod enc μ w 0 (λ_=>true) true n 32 [c12,c13]=ς y:=hfld 6 _ rfl;obtain⟨yu,tu⟩:∃ y,DataW.trod enc μ w 0 (λ_=>true) true n 4 [c14]=ς y:=hfld 7 _ rfl;obtain⟨nF,fF⟩:=Dv Tryz.underlying24 tF;obtain⟨nL,fL⟩:=Dv Tryz.underlying26 tL;obtain⟨nD,fD⟩:=Dv Tryz.underlying30 tD;obtain⟨nT,fT⟩:=Dv Tryz.underlying32 tT;obtain⟨yf0,tf0⟩:∃ y,DataW.trod enc μ w 0 (λ_=>true) true nF 22 [c2]=ς y:=fF 0 _ rfl;obtain⟨yf1,tf1⟩:∃ y,DataW.trod enc μ w 0 (λ_=>true) true nF 3 [c3]=ς y:=fF 1 _ rfl;obtain⟨yf2,tf2⟩:∃ y,DataW.trod enc μ w 0 (λ_=>true) true nF 3 [c4]=ς y:=fF 2 _ rfl;obtain⟨yf3,tf3⟩:∃ y,DataW.trod enc μ w 0 (λ_=>true) true nF 3 [c5]=ς y:=fF 3 _ rfl;obtain⟨yf4,tf4⟩:∃ y,DataW.trod enc μ w 0 (λ_=>true) true nF 3 [c6]=ς y:=fF 4 _ rfl;obtain⟨yf5,tf5⟩:∃ y,DataW.trod enc μ w 0 (λ_=>true) true nF 4 [c7]=ς y:=fF 5 _ rfl;obtain⟨yl0,tl0⟩:∃ y,DataW.trod enc μ w 0 (λ_=>true) true nL 3 [c8]=ς y:=fL 0 _ rfl;obtain⟨yl1,tl1⟩:∃ y,DataW.trod enc μ w 0 (λ_=>true) true nL 3 [c9]=ς y:=fL 1 _ rfl;obtain⟨yd0,td0⟩:∃ y,DataW.trod enc μ w 0 (λ_=>true) true nD 28 [c11]=ς y:=fD 0 _ rfl;obtain⟨ys0,ts0⟩:∃ y,DataW.trod enc μ w 0 (λ_=>true) true nT 3 [c12]=ς y:=fT 0 _ rfl;obtain⟨ys1,ts1⟩:∃ y,DataW.trod enc μ w 0 (λ_=>true) true nT 27 [c13]=ς y:=fT 1 _ rfl;obtain⟨k0,q,-,-⟩:=DataW.trod_int Tryz.underlying3 ta;obtain rfl:c0=.int .i64 k0:=by simpa using q
 clear q;obtain⟨k1,q,-,-⟩:=DataW.trod_int Tryz.underlying3 tb;obtain rfl:c1=.int .i64 k1:=by simpa using q
 clear q;obtain⟨x1,q,-,-⟩:=DataW.trod_int Tryz.underlying3 tf1;obtain rfl:c3=.int .i64 x1:=by simpa using q
 clear q;obtain⟨x2,q,-,-⟩:=DataW.trod_int Tryz.underlying3 tf2;obtain rfl:c4=.int .i64 x2:=by simpa using q
 clear q;obtain⟨x3,q,-,-⟩:=DataW.trod_int Tryz.underlying3 tf3;obtain rfl:c5=.int .i64 x3:=by simpa using q
 clear q;obtain⟨x4,q,-,-⟩:=DataW.trod_int Tryz.underlying3 tf4;obtain rfl:c6=.int .i64 x4:=by simpa using q
 clear q;obtain⟨l0,q,-,-⟩:=DataW.trod_int Tryz.underlying3 tl0;obtain rfl:c8=.int .i64 l0:=by simpa using q
 clear q;obtain⟨l1,q,-,-⟩:=DataW.trod_int Tryz.underlying3 tl1;obtain rfl:c9=.int .i64 l1:=by simpa using q
 clear q;obtain⟨ts,q,-,-⟩:=DataW.trod_int Tryz.underlying3 ts0;obtain rfl:c12=.int .i64 ts:=by simpa using q
 clear q;obtain⟨x5,q,-⟩:=DataW.trod_bool Tryz.underlying4 tf5;obtain rfl:c7=.bool x5:=by simpa using q
 clear q;obtain⟨up,q,-⟩:=DataW.trod_bool Tryz.underlying4 tu;obtain rfl:c14=.bool up:=by simpa using q
 clear q;obtain⟨af,nf,cf,F,rfl,hF⟩:=I9 tf0;obtain⟨ae,ne,ce,S,rfl,hE⟩:=EF tE;obtain⟨ad,nd,cd,T,rfl,hD⟩:=Kx td0;obtain⟨ap,np,cp,U,rfl,hP⟩:=EF ts1;exact⟨k0,k1,x1,x2,x3,x4,x5,l0,l1,ts,up,af,nf,cf,F,ae,ne,ce,S,ad,nd,cd,T,ap,np,cp,U,rfl,hF,hE,hD,hP⟩
end Go.Proofs.YtfnfdllflgmhnaaGreatDoor
namespace Go.Proofs.YtfnfdllflgmhnaaGreatDoor
open Go.ChangeShapes Go.WideShapes Go.ChangeAt Go.RowKit
theorem S9:ownKnob Tryz.prog.godebug=ν:=by kernel_rfl
theorem EL:laidOutB μ=true:=by kernel_rfl
theorem XD:Tryz.prog.globalNamed "strings.asciiSpace"=ς 0:=by kernel_rfl
theorem P2:(Tryz.prog.globals[0]?).map (·.type)=ς 248:=by kernel_rfl
theorem Pg:(Rows.laid_strings_asciiSpace:DataW Unit)=Lib.tabData .u8 Lib.asciiSpaceTab:=by kernel_rfl
theorem Rp{W:ο}(h:laidMetH μ [("unicode.White_Space",Rows.laid_unicode_White_Space),("strings.asciiSpace",Rows.laid_strings_asciiSpace)] W):SpT W:=by
 have h1:laidMet μ [("unicode.White_Space",Rows.laid_unicode_White_Space),("strings.asciiSpace",Rows.laid_strings_asciiSpace)] W:=h;have h2:=h1.tail;rw [Pg] at h2;have htab:=Lib.tabIs_of_head XD P2 Tryz.underlying248 Tryz.underlying5 (by kernel_rfl) (by kernel_rfl) h2;intro c hc;rw [htab.cell XD c (by rw [Lib.asciiSpaceTab_length];exact hc),Lib.asciiSpaceTab_at c hc]
end Go.Proofs.YtfnfdllflgmhnaaGreatDoor
namespace Go.Proofs.YtfnfdllflgmhnaaGreatDoor
open Go.ChangeShapes Go.WideShapes Go.ChangeAt Go.RowKit Go.Deep Go.Joins
set_option maxRecDepth 100000
open Go.ChangeMaps (open_string)
theorem My{H:Type}{enc:TypeId×XU->H}{w:ο}{v:XU}{d:DataW H}{p:List MemPlace}{r:Reach}{base:Nat}(hv:Value.okWide μ w r base 9 v)(h:DataW.Trod enc μ w 0 (λ_=>true) true 9 v d p):∃ s:ByteArray,v=.string s/\s.size<=9223372036854775807:=by
 obtain⟨a0,rfl,_,_,w0⟩:=open_string Tryz.underlying9 hv h;unfold maxLen at w0;exact⟨a0,rfl,by omega⟩
theorem GP(H:Type)(enc:TypeId×XU->H)(W:ο)(base:Nat)(args:Array XU)(ds gs:List (DataW H))(before:List MemPlace)
 (hval:∀ (j:Nat) t v,Tryz.f3.params[j]?=ς t->args[j]?=ς v->Value.okWide μ W .any base t v)
 (hW:DataW.Whole enc μ Tryz.f3.params.toList Rows.fnExactQuerySpec.vars false W args.toList ds gs before) (hL:laidMetH μ Rows.fnExactQueryRow.laid W) :
 XR μ 3 args W λe W'=>∃ v,e=.returned v/\Rows.fnExactQuerySpec.post enc μ Tryz.f3 false true false false W args v W':=by
 have hW':=hW;obtain⟨p,q,hA0,hV,rfl,hfz,hnd⟩:=hW;have hA:DataW.TrodAll enc μ W 0 (λ_=>true) true Tryz.f3.params.toList args.toList ds p:=hA0;rw [Tryz.params3] at hA hval;obtain⟨v0,vs0,d0,ds0,p0,q0,hargs,rfl,rfl,h0,r0⟩:=trodAll_cons hA;obtain⟨v1,vs1,d1,ds1,p1,q1,rfl,rfl,rfl,h1,r1⟩:=trodAll_cons r0;obtain⟨rfl,rfl,rfl⟩:=trodAll_nil r1;obtain rfl:args=#[v0,v1]:=by cases args;simp_all
 obtain⟨rfl,rfl⟩:=trodVars_none hV;have h0k:=h0;have h1k:=h1;obtain⟨k0,k1,x1,x2,x3,x4,x5,l0,l1,ts,up,af,nf,cf,F,ae,ne,ce,S,ad,nd,cd,T,ap,np,cp,U,rfl,hF,hE,hD,hP⟩:=Mz (hval 0 34 v0 rfl rfl) h0;obtain⟨s,rfl,hs⟩:=My (hval 1 9 v1 rfl rfl) h1;clear hA0;simp only [List.append_nil] at hW'
 have hlt:∀ x∈p0 ++ p1,x.block<W.heap.size:=λx hx=>by simpa using hW'.lt x hx
 have hlt0:∀ x∈p0,x.block<W.heap.size:=λx hx=>hlt x (List.mem_append_left _ hx);have hlt1:∀ x∈p1,x.block<W.heap.size:=λx hx=>hlt x (List.mem_append_right _ hx);refine(Wk k0 k1 x1 x2 x3 x4 x5 l0 l1 ts up af nf cf F ae ne ce S ad nd cd T ap np cp U s W hs hF hE hD hP (Rp hL)).mono λe W' ⟨he,bel⟩=>?_;subst he;exact⟨_,rfl,_,_,_,[],_,[],hW',trodAll_mk1 (shut_bool Tryz.underlying4 _),(trodAll_cons_mk (Below.trod EL (by kernel_rfl) (of_decide_eq_true (by kernel_rfl)) h0k bel hlt0) (trodAll_cons_mk (Below.trod EL (by kernel_rfl) (of_decide_eq_true (by kernel_rfl)) h1k bel hlt1) trodAll_mk0)),bel.trodVars EL (by kernel_rfl) hV,bel.frame _,λh=>by cases h⟩
theorem GK(os:Os):laidMet μ Rows.fnExactQueryRow.laid (({ (World.holding μ os ⟨#[γ (Lib.whiteT.map λ(z:Nat)=>ι .u16 (z:Int)).toArray 291,γ #[σ (ς ⟨(World.settled μ os).heap.size,0,ν⟩) 7 7,σ ν 0 0,ι κ 2] 288],#[],[]⟩) with heap:=((World.holding μ os ⟨#[γ (Lib.whiteT.map λ(z:Nat)=>ι .u16 (z:Int)).toArray 291,γ #[σ (ς ⟨(World.settled μ os).heap.size,0,ν⟩) 7 7,σ ν 0 0,ι κ 2] 288],#[],[]⟩).heap.modify 0 λ_=>γ (Lib.asciiSpaceTab.map λz=>ι .u8 z).toArray 248 (0,0)).modify 1 λ_=>γ #[ψ (ς ⟨(World.settled μ os).heap.size+1,0,ν⟩)] 276 (0,0) }:ο).forCall (λ_ _=>0) ⟨#[],#[χ #[ι κ 0,ι κ 0,σ ν 0 0,ι κ 0,ι κ 0,ι κ 0,ι κ 0,β false,ι κ 0,ι κ 0,σ ν 0 0,σ ν 0 0,ι κ 0,σ ν 0 0,β false],τ XN],[]⟩).memory:=
 laidMet_of_run3 10 (by kernel_rfl) (by kernel_rfl) (by kernel_rfl)
theorem Gk(os:Os){H:Type}(enc:TypeId×XU->H):(OpenSpec.ofChange Rows.fnExactQuerySpec).preRow enc μ Tryz.f3 Rows.fnExactQueryRow.domain false Rows.fnExactQueryRow.laid (({ (World.holding μ os ⟨#[.cells (Lib.whiteT.map λ(z:Nat)=>ι .u16 (z:Int)).toArray 291,.cells #[.slice (ς ⟨(World.settled μ os).heap.size,0,ν⟩) 7 7,.slice ν 0 0,.int .i64 2] 288],#[],[]⟩) with heap:=((World.holding μ os ⟨#[.cells (Lib.whiteT.map λ(z:Nat)=>ι .u16 (z:Int)).toArray 291,.cells #[.slice (ς ⟨(World.settled μ os).heap.size,0,ν⟩) 7 7,.slice ν 0 0,.int .i64 2] 288],#[],[]⟩).heap.modify 0 λ_=>.cells (Lib.asciiSpaceTab.map λz=>ι .u8 z).toArray 248 (0,0)).modify 1 λ_=>.cells #[.pointer (ς ⟨(World.settled μ os).heap.size+1,0,ν⟩)] 276 (0,0) }:ο).forCall (λ_ _=>0) ⟨#[],#[.agg #[.int .i64 0,.int .i64 0,.slice ν 0 0,.int .i64 0,.int .i64 0,.int .i64 0,.int .i64 0,.bool false,.int .i64 0,.int .i64 0,.slice ν 0 0,.slice ν 0 0,.int .i64 0,.slice ν 0 0,.bool false],.string XN],[]⟩).memory #[.agg #[.int .i64 0,.int .i64 0,.slice ν 0 0,.int .i64 0,.int .i64 0,.int .i64 0,.int .i64 0,.bool false,.int .i64 0,.int .i64 0,.slice ν 0 0,.slice ν 0 0,.int .i64 0,.slice ν 0 0,.bool false],.string XN]:=by
 have hw:(DataW.whole enc μ (({ (World.holding μ os ⟨#[.cells (Lib.whiteT.map λ(z:Nat)=>ι .u16 (z:Int)).toArray 291,.cells #[.slice (ς ⟨(World.settled μ os).heap.size,0,ν⟩) 7 7,.slice ν 0 0,.int .i64 2] 288],#[],[]⟩) with heap:=((World.holding μ os ⟨#[.cells (Lib.whiteT.map λ(z:Nat)=>ι .u16 (z:Int)).toArray 291,.cells #[.slice (ς ⟨(World.settled μ os).heap.size,0,ν⟩) 7 7,.slice ν 0 0,.int .i64 2] 288],#[],[]⟩).heap.modify 0 λ_=>.cells (Lib.asciiSpaceTab.map λz=>ι .u8 z).toArray 248 (0,0)).modify 1 λ_=>.cells #[.pointer (ς ⟨(World.settled μ os).heap.size+1,0,ν⟩)] 276 (0,0) }:ο).forCall (λ_ _=>0) ⟨#[],#[.agg #[.int .i64 0,.int .i64 0,.slice ν 0 0,.int .i64 0,.int .i64 0,.int .i64 0,.int .i64 0,.bool false,.int .i64 0,.int .i64 0,.slice ν 0 0,.slice ν 0 0,.int .i64 0,.slice ν 0 0,.bool false],.string XN],[]⟩).memory Tryz.f3.params.toList Rows.fnExactQuerySpec.vars false #[.agg #[.int .i64 0,.int .i64 0,.slice ν 0 0,.int .i64 0,.int .i64 0,.int .i64 0,.int .i64 0,.bool false,.int .i64 0,.int .i64 0,.slice ν 0 0,.slice ν 0 0,.int .i64 0,.slice ν 0 0,.bool false],.string XN].toList 8).map (λx=>(x.1,x.2.1))=ς ([.agg [.lit (.int .i64 0),.lit (.int .i64 0),.agg [.nil,.lit (.int .i64 0),.lit (.int .i64 0),.lit (.int .i64 0),.lit (.int .i64 0),.lit (.bool false)],.agg [.lit (.int .i64 0),.lit (.int .i64 0)],.nil,.agg [.nil],.agg [.lit (.int .i64 0),.nil],.lit (.bool false)],.lit (.string [])],[]):=by kernel_rfl
 obtain⟨⟨x1,x2,x3⟩,hx,hx1⟩:=Option.map_eq_some_iff.1 hw;simp only [Prod.mk.injEq] at hx1
 obtain⟨rfl,rfl⟩:=hx1;exact OpenSpec.preRow_of_cond 8 hx (by kernel_rfl) (λk hk=>by cases hk) (by kernel_rfl) (GK os)
theorem IZ(os:Os)(started:os.Started)(H:Type)(enc:TypeId×XU->H)(F:Stop.Interp) :
 ReturnsInHanded {} Tryz.checked os 3 .any ((OpenSpec.ofChange Rows.fnExactQuerySpec).preRow enc μ Tryz.f3 Rows.fnExactQueryRow.domain false Rows.fnExactQueryRow.laid) (((OpenSpec.ofChange Rows.fnExactQuerySpec).at F).post enc μ Tryz.f3 false true false false):=by
 refine returnsInHanded_of_row (C:=Tryz.checked) (s:=OpenSpec.ofChange Rows.fnExactQuerySpec) S9 started (by kernel_rfl) Tryz.func3
  (witness_row_atRef (enc:=enc) (C:=Tryz.checked) false ({ (World.holding μ os ⟨#[γ (Lib.whiteT.map λ(z:Nat)=>ι .u16 (z:Int)).toArray 291,γ #[σ (ς ⟨(World.settled μ os).heap.size,0,ν⟩) 7 7,σ ν 0 0,ι κ 2] 288],#[],[]⟩) with heap:=((World.holding μ os ⟨#[γ (Lib.whiteT.map λ(z:Nat)=>ι .u16 (z:Int)).toArray 291,γ #[σ (ς ⟨(World.settled μ os).heap.size,0,ν⟩) 7 7,σ ν 0 0,ι κ 2] 288],#[],[]⟩).heap.modify 0 λ_=>γ (Lib.asciiSpaceTab.map λz=>ι .u8 z).toArray 248 (0,0)).modify 1 λ_=>γ #[ψ (ς ⟨(World.settled μ os).heap.size+1,0,ν⟩)] 276 (0,0) }:ο) #[χ #[ι κ 0,ι κ 0,σ ν 0 0,ι κ 0,ι κ 0,ι κ 0,ι κ 0,β false,ι κ 0,ι κ 0,σ ν 0 0,σ ν 0 0,ι κ 0,σ ν 0 0,β false],τ XN] rfl (by kernel_rfl) (by kernel_rfl) (by kernel_rfl) (Gk os enc)) ?_
 intro W base args ds gs before hval hW _ _ _ hL _ _;exact GP H enc W base args ds gs before hval hW hL
theorem Km:Rows.FnExactQuerySaid:=
 OpenClaim.holds_of_cond 3 Tryz.f3 rfl rfl rfl rfl rfl rfl rfl ⟨rfl,rfl,rfl,rfl,rfl⟩ rfl rfl rfl rfl rfl (by kernel_rfl) Tryz.func3 (by kernel_rfl)
  (of_decide_eq_true (by kernel_rfl)) (by unfold Func.isWrapper;first | (rw [if_pos (by decide +kernel)];kernel_rfl) | (rw [if_neg (by decide +kernel)];exact⟨rfl,rfl⟩))
  (λos started H enc _ F=>by rw [OpenClaim.pre_eq_preRow];exact IZ os started H enc F)
theorem I7(f:FuncId)(fn:Func)(hf:Tryz.pinned.checked.prog.funcNamed "loop.example/s02884/laws.FnExactQuery"=ς f)(hfn:Tryz.pinned.checked.prog.funcs[f]?=ς fn) :
 false=Tryz.pinned.checked.prog.looks []/\∀ (j:Nat) t,fn.params[j]?=ς t->Tryz.pinned.checked.prog.wantsStandIn t=false:=by
 obtain rfl:f=3:=XM ((show Tryz.prog.funcNamed "loop.example/s02884/laws.FnExactQuery"=ς 3 by kernel_rfl).symm.trans hf) |>.symm;obtain rfl:fn=Tryz.f3:=(XM (Tryz.func3.symm.trans hfn)).symm;refine⟨by kernel_rfl,λj t ht=>?_⟩;rw [Tryz.params3] at ht;have hm:t=34∨t=9:=by simpa using Array.mem_of_getElem? ht
 rcases hm with rfl | rfl
 · exact(show Tryz.prog.wantsStandIn 34=false by kernel_rfl)
 · exact(show Tryz.prog.wantsStandIn 9=false by kernel_rfl)
theorem query_card:Rows.FnExactQueryCardSaid:=
 Claim7.holds_tied_plain_at .later [] _ _ _ _ Km (λ_ h=>by cases h) (by kernel_rfl) (λ_ h=>by cases h) fnExactQuery_row_tie rfl ⟨rfl,rfl⟩ (by kernel_rfl) rfl I7 (by kernel_rfl)
#print axioms query_card
