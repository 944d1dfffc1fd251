import Derived.Test.YtgeiamgeclbiaaaGreatDoorNi
import Derived.Deep.DeepCutAuto
namespace Go.Proofs.YtgeiamgeclbiaaaGreatDoor
open Go.RowKit Go.Maps Go.WideMaps
set_option maxRecDepth 20000
set_option maxHeartbeats 8000000
abbrev qNj0:Oper:=⟨some 33,.move (.tmp 4),196,"l4_stm.go:341",#[],none⟩
abbrev qNj1:Oper:=⟨some 34,.move (.tmp 8),3,"l4_stm.go:341",#[],none⟩
abbrev qNj2:Oper:=⟨some 35,.slice 196 (.tmp 33) none (some (.tmp 34)) none,196,"l4_stm.go:341",#[⟨0,.data⟩,⟨1,.data⟩],none⟩
abbrev qNj3:Oper:=⟨some 36,.load 108 (.tmp 6),108,"l4_stm.go:341",#[],none⟩
abbrev qNj4:Oper:=⟨some 37,.move (.tmp 4),196,"l4_stm.go:341",#[],none⟩
abbrev qNj5:Oper:=⟨some 38,.move (.tmp 8),3,"l4_stm.go:341",#[],none⟩
abbrev qNj6:Oper:=⟨some 39,.slice 196 (.tmp 37) (some (.tmp 38)) none none,196,"l4_stm.go:341",#[⟨4,.data⟩,⟨5,.data⟩],none⟩
abbrev qNj7:Oper:=⟨some 40,.call ⟨.value (.func 159),#[.tmp 36,.tmp 39],#[108,196]⟩,166,"l4_stm.go:341",#[⟨3,.data⟩,⟨6,.data⟩],none⟩
abbrev qNj8:Oper:=⟨some 41,.buildSlice 196 1 #[(0,.tmp 40)],196,"l4_stm.go:341",#[⟨7,.data⟩],none⟩
abbrev qNj9:Oper:=⟨some 42,.call ⟨.builtin .append,#[.tmp 35,.tmp 41],#[196,196]⟩,196,"l4_stm.go:341",#[⟨2,.data⟩,⟨8,.data⟩,⟨7,.chain⟩],none⟩
abbrev qNj10:Oper:=⟨some 4,.assign (.tmp 42),196,"l4_stm.go:341",#[⟨9,.data⟩,⟨9,.chain⟩,⟨0,.phase⟩,⟨1,.phase⟩,⟨2,.phase⟩,⟨3,.phase⟩,⟨4,.phase⟩,⟨5,.phase⟩,⟨6,.phase⟩,⟨7,.phase⟩,⟨8,.phase⟩,⟨9,.phase⟩],none⟩
theorem own_below{w w':World}{base e size n:Nat}{v:Value}{xs:List Value}(h:w.ownsRow base e size v n xs)(hb:Below w.heap.size w w'):w'.ownsRow base e size v n xs:=by
 obtain⟨hl,hh⟩:=h;refine⟨hl,?_⟩;rcases hh with hh | ⟨gg,cap,cur,e1,e2,e3,e4⟩
 · exact Or.inl hh
 · exact Or.inr ⟨gg,cap,cur,e1,e2,(hb.block gg (Array.getElem?_eq_some_iff.1 e3).1).trans e3,e4⟩
theorem own_take{w:World}{base e g n cap r:Nat}{xs:List Value}(h:w.ownsRow base e 1 (.slice (some ⟨g,0,none⟩) n cap) n xs)(hr:r<=n):w.ownsRow base e 1 (.slice (some ⟨g,0,none⟩) r cap) r (xs.take r):=by
 obtain⟨hl,hh⟩:=h;refine⟨by simp;omega,?_⟩;rcases hh with ⟨hh,_⟩ | ⟨gg,cap',cur,e1,e2,e3,e4,e5,e6,e7⟩
 · simp at hh
 ·
  simp only [Value.slice.injEq,Option.some.injEq,Addr.mk.injEq,and_true,true_and] at e1
  obtain⟨rfl,rfl⟩:=e1;refine Or.inr ⟨g,cap,cur,rfl,e2,e3,by omega,e5,e6,?_⟩;rw [←e7,List.take_take,Nat.min_eq_left (by omega),Nat.mul_one]
theorem grow_le{w:World}{B:Nat}{e:TypeId}{size g n cap:Nat}{xs:List Value}(h:w.ownsRow B e size (.slice (some ⟨g,0,none⟩) n cap) n xs):B<=g:=
 (h.lt g rfl).1
theorem own_cap{w:World}{base e g n cap:Nat}{xs:List Value}(h:w.ownsRow base e 1 (.slice (some ⟨g,0,none⟩) n cap) n xs):n<=cap/\cap<=maxLen:=by
 obtain⟨hl,hh⟩:=h;rcases hh with ⟨hh,_⟩ | ⟨gg,cap',cur,e1,e2,e3,e4,e5,e6,e7⟩
 · simp at hh
 ·
  simp only [Value.slice.injEq,Option.some.injEq,Addr.mk.injEq,and_true,true_and] at e1
  obtain⟨rfl,rfl⟩:=e1;exact⟨e4,e5⟩
theorem ones(v:Value)(h:v.oneCell'=true):∀ u∈[v],u.oneCell'=true:=by
 intro u hu;simp at hu;subst hu;exact h
structure Bx3(B:Nat)(i:Itm)(w:World):Prop where
 c0:w.cell? ⟨B,0,none⟩=some (.int .i64 i.o)
 c1:w.cell? ⟨B,1,none⟩=some (.int .i64 i.m)
 c2:w.cell? ⟨B,2,none⟩=some (.string i.s)
theorem Bx3.later{B:Nat}{i:Itm}{w w':World}(h:Bx3 B i w)(hb:Below w.heap.size w w'):Bx3 B i w':=⟨keepB hb h.c0,keepB hb h.c1,keepB hb h.c2⟩
theorem Bx3.drew{B:Nat}{i:Itm}{w:World}(h:Bx3 B i w):Bx3 B i w.drew:=⟨h.c0,h.c1,h.c2⟩
theorem Bx3.grown{B:Nat}{i:Itm}{w w':World}{r:Option Nat}(h:Bx3 B i w)(hg:w.grownBy w' r)(hr:some B≠r):Bx3 B i w':=⟨hg.cell h.c0 hr,hg.cell h.c1 hr,hg.cell h.c2 hr⟩
theorem Tryz.infoN:(Tryz.prog.info? 166).map (fun i=>(i.zero,i.size,i.bytes))=some (some .nilIface,1,16):=by kernel_rfl
theorem nl_own{w:World}{base e g n cap r:Nat}{L:List Tr}{a:Option Addr}(h:w.ownsRow base e 1 (.slice (some ⟨g,0,none⟩) n cap) n (L.map Tr.val))(hn:L.length=n)(q:Nat)(hq:r+q=n)(ha:0<q->a=some ⟨g,r,none⟩):NL w a q (fun j=>L.getD (r+j) (.num 0)):=fun k hk=>by
 refine⟨g,r,ha (by omega),?_⟩;have:=h.cellAt (r+k) (by omega);rw [this];have hlt:r+k<L.length:=by omega
 have e:L.getD (r+k) (.num 0)=L[r+k]:=by simp [hlt]
 rw [List.getElem?_map,List.getElem?_eq_getElem hlt];show some _=_
 dsimp only
 rw [e];rfl
theorem undrew{w w':World}(h:Below w.drew.heap.size w.drew w'):Below w.heap.size w w':=⟨h.os,h.tape,h.output,h.size,h.block⟩
theorem NL.drew{w:World}{a:Option Addr}{n:Nat}{S:Nat->Tr}(h:NL w a n S):NL w.drew a n S:=h
theorem all_split(L:List Tr)(r q:Nat)(h:r+q=L.length):L.all Tr.ok=((L.take r).all Tr.ok && (List.range q).all fun j=>(L.getD (r+j) (.num 0)).ok):=by
 have e:L=L.take r ++ L.drop r:=(List.take_append_drop r L).symm;have e2:(List.range q).map (fun j=>L.getD (r+j) (.num 0))=L.drop r:=by
  apply List.ext_getElem
  · simp;omega
  ·
   intro i h1 h2;simp at h1
   simp
   rw [List.getElem?_eq_getElem (by omega)];rfl
 have e3:((List.range q).all fun j=>(L.getD (r+j) (.num 0)).ok)=(L.drop r).all Tr.ok:=by
  rw [←e2,List.all_map];rfl
 rw [e3,←List.all_append,←e]
def stk(I:Nat->Itm):Nat->List Tr
 | 0=>[]
 | k+1=>(stk I k).take ((stk I k).length - (opn (I k).o (I k).m (I k).s).toNat) ++ [mkN (I k).o (I k).m (I k).s (fun j=>(stk I k).getD ((stk I k).length - (opn (I k).o (I k).m (I k).s).toNat+j) (.num 0))]
theorem stk_step{I:Nat->Itm}{k:Nat}{L:List Tr}{r q:Nat}{nd:Tr}(h:L=stk I k)(hq:opn (I k).o (I k).m (I k).s=(q:Int))(hr:r+q=L.length)(hn:mkN (I k).o (I k).m (I k).s (fun j=>L.getD (r+j) (.num 0))=nd):L.take r ++ [nd]=stk I (k+1):=by
 subst h;rw [stk,hq];have e:(stk I k).length - (q:Int).toNat=r:=by omega
 rw [e,←hn]
theorem iLift(a:Option Addr)(n c:Nat)(I:Nat->Itm)(w:World)(h:IL w a n I)(hn:n<=1048576):Calls Tryz.prog 126 #[.slice a n c] w fun e w'=>Below w.heap.size w w' /\
 ((e=.returned (.tuple #[.nilIface,.bool false])/\okExp I n=false)∨(∃ t:Tr,e=.returned (.tuple #[t.val,.bool true])/\t.fit/\okExp I n=t.ok/\stk I n=[t])):=by
 have hb0:=Below.refl w.heap.size w;obtain⟨i0,hi,hz0,hz1,hz2⟩:=info_parts Tryz.infoN;have HI:Hid (Tryz.prog.info? 166=some i0):=hi;clear hi;go_enter Tryz.func126,Tryz.ntmps126
 go_wp2
 · exact bodyPost_ret (v:=.tuple #[.nilIface,.bool false]) (by simp [results,Tryz.results126,go_sem]) rfl ⟨hb0,Or.inl ⟨rfl,exp_long (by omega)⟩⟩
 have H100:Hid (n<=100):=(by omega:n<=100);go_loopw [4,15] (fun v i wr=>∃ (k:Nat) (L:List Tr) (g cap:Nat),k<=n/\i=.int .i64 k/\v=.slice (some ⟨g,0,none⟩) L.length cap/\wr.ownsRow w.heap.size 166 1 (.slice (some ⟨g,0,none⟩) L.length cap) L.length (L.map Tr.val)/\sh I k=some (L.length:Int)/\L.all Tr.ok=lf I k/\(∀ t∈L,t.fit)/\L.length<=k/\L=stk I k/\Below w.heap.size w wr) (fun _ i _=>n - (intOf i).toNat)
 case atStart=>
  refine⟨0,[],w.heap.size,0,by omega,rfl,rfl,?_,rfl,rfl,by simp,by simp,rfl,bal _ _⟩;exact World.ownsRow_made w #[] 0 (Nat.le_refl _) (by unfold maxLen;omega) rfl
 case round=>
  obtain⟨k,L,g,cap,hk,rfl,rfl,hO,hsh,hok,hfit,hLk,hstk,hb⟩:=hrel;have HSTK:Hid (L=stk I k):=hstk;clear hstk;by_cases hlt:k<n
  ·
   obtain⟨b,off,rfl,c0,c1,c2,hs⟩:=h.later hb k hlt;have hst:sh I (k+1)=if 0<=opn (I k).o (I k).m (I k).s/\opn (I k).o (I k).m (I k).s<=L.length then some (L.length+(1 - opn (I k).o (I k).m (I k).s)) else none:=by rw [sh,hsh]
   have hgg:=grow_le hO;have hgl:=(hO.lt g rfl).2;have hcp:=own_cap hO;have hO1:=hO.alloc (.cells #[.int .i64 (I k).o,.int .i64 (I k).m,.string (I k).s] 108);by_cases hq0:0<=opn (I k).o (I k).m (I k).s/\opn (I k).o (I k).m (I k).s<=L.length
   ·
    obtain⟨q,hq⟩:∃ q:Nat,opn (I k).o (I k).m (I k).s=q:=⟨(opn (I k).o (I k).m (I k).s).toNat,by omega⟩;obtain⟨r,hr⟩:∃ r:Nat,r+q=L.length:=⟨L.length - q,by omega⟩;rw [if_pos hq0,hq] at hst;have hLL:(L.length:Int)=(r:Int)+q:=by omega
    have d1:decide ((q:Int)<0)=false:=by simp
    have d2:decide ((L.length:Int)<(q:Int))=false:=by simp;omega
    have d3:wrap64 ((L.length:Int) - (q:Int))=(r:Int):=by unfold wrap64;have:=H100.out;omega
    go_wp2_with (go_at_call 158;refine(iOperands (I k).o (I k).m (I k).s _).mono ?_;rw [hq];rintro e w2 ⟨rfl,hb2⟩)
    have hX2:Bx3 wr.heap.size (I k) w2:=by
     obtain⟨x0,x1,x2⟩:=kept3 hb2;exact⟨x0,x1,x2⟩
    have hO2:=own_below hO1 hb2;have hbw2:=bj hb hb2;have hs2:=hb2.size;have hs2':(wr.alloc (.cells #[.int .i64 (I k).o,.int .i64 (I k).m,.string (I k).s] 108)).heap.size=wr.heap.size+1:=by simp
    have i0r:(0:Int)<=(r:Int):=by omega
    have i1r:(r:Int)<=(cap:Int):=by omega
    have i2r:(r:Int)<=(L.length:Int):=by omega
    have i3r:r<=cap:=by omega
    have i4r:(L.length:Int)<=(cap:Int):=by omega
    clear hb2 hO1 hO c0 c1 c2 d1 d2 d3 hs2' hLL;by_cases hcr:cap=r
    ·
     subst hcr;refine wp_region_held_drew (S:=Bx3 wr.heap.size (I k)) (by kernel_rfl) hX2.drew (fun _=>?_);refine wpAnyH_take (i:=0) (oi:=qNj0) (v:=.slice (some ⟨g,0,none⟩) L.length cap) rfl (by kernel_rfl) (by kernel_rfl) (by kernel_rfl) (fun _ _ _ h=>h) (Or.inl ⟨by rfl,fun w jS=>by go_simp⟩) hX2.drew ?_;simp only [zS]
     refine wpAnyH_take (i:=1) (oi:=qNj1) (v:=.int .i64 (cap:Int)) rfl (by kernel_rfl) (by kernel_rfl) (by kernel_rfl) (fun _ _ _ h=>h) (Or.inl ⟨by rfl,fun w jS=>by go_simp⟩) hX2.drew ?_;simp only [zS]
     refine wpAnyH_take (i:=2) (oi:=qNj2) (v:=.slice (some ⟨g,0,none⟩) cap cap) rfl (by kernel_rfl) (by kernel_rfl) (by kernel_rfl) (fun _ _ _ h=>h) (Or.inl ⟨by rfl,fun w jS=>by go_simp⟩) hX2.drew ?_;simp only [zS]
     refine wpAnyH_take (i:=3) (oi:=qNj3) (v:=.agg #[.int .i64 (I k).o,.int .i64 (I k).m,.string (I k).s]) rfl (by kernel_rfl) (by kernel_rfl) (by kernel_rfl) (fun _ _ _ h=>h) (Or.inl ⟨by rfl,fun w jS=>by obtain⟨x0,x1,x2⟩:=jS;go_simp⟩) hX2.drew ?_;simp only [zS]
     refine wpAnyH_take (i:=4) (oi:=qNj4) (v:=.slice (some ⟨g,0,none⟩) L.length cap) rfl (by kernel_rfl) (by kernel_rfl) (by kernel_rfl) (fun _ _ _ h=>h) (Or.inl ⟨by rfl,fun w jS=>by go_simp⟩) hX2.drew ?_;simp only [zS]
     refine wpAnyH_take (i:=5) (oi:=qNj5) (v:=.int .i64 (cap:Int)) rfl (by kernel_rfl) (by kernel_rfl) (by kernel_rfl) (fun _ _ _ h=>h) (Or.inl ⟨by rfl,fun w jS=>by go_simp⟩) hX2.drew ?_;simp only [zS]
     refine wpAnyH_take (i:=6) (oi:=qNj6) (v:=.slice (some ⟨g,0,none⟩) 0 0) rfl (by kernel_rfl) (by kernel_rfl) (by kernel_rfl) (fun _ _ _ h=>h) (Or.inl ⟨by rfl,fun w jS=>by go_simp⟩) hX2.drew ?_;simp only [zS]
     have hN:NL w2.drew (some ⟨g,0,none⟩) 0 (fun j=>L.getD (cap+j) (.num 0)):=fun k hk=>by omega
     have HM:=fun cc=>iMakeNode (I k).o (I k).m (I k).s _ 0 cc _ _ hN (by omega) (by omega);obtain⟨nd,hnd⟩:∃ t:Tr,(mkN (I k).o (I k).m (I k).s (fun j=>L.getD (cap+j) (.num 0)))=t:=⟨_,rfl⟩;rw [hnd] at HM;have HND:Hid ((mkN (I k).o (I k).m (I k).s (fun j=>L.getD (cap+j) (.num 0)))=nd):=hnd;clear hnd hN;refine rd 7 qNj7 (fun K hK=>?_);go_simp;refine(HM _).mono ?_;rintro e w3 ⟨rfl,hb3⟩;refine hK.out _ _ (hX2.drew.later hb3) (fun _=>?_);clear hK K;clear HM;have hO3:=own_below (own_take hO2.drew (r:=cap) (by omega)) hb3;have hs3:=hb3.size;have hsb:=hbw2.size;have hAL:∀ o:Obj,(w3.alloc o).heap.size=w3.heap.size+1:=fun o=>by simp
     have hs3d:w2.drew.heap.size=w2.heap.size:=rfl;refine rd 8 qNj8 (fun K hK=>?_);go_simp;refine hK.out _ _ ((hX2.drew.later hb3).later (bal _ _)) (fun _=>?_);clear hK K;refine rd 9 qNj9 (fun K hK=>?_);rw [if_pos (by kernel_rfl)];refine wp_append_lies _ _ _ _ rfl w.heap.size 166 i0 .nilIface 1 16 Tryz.underlying196 HI.out hz0 hz1 hz2 rfl (by omega) (.slice (some ⟨g,0,none⟩) cap cap) cap _ rfl (hO3.alloc _) ⟨w3.heap.size,0,none⟩ 1 1 [.iface nd.ty nd.pay] rfl rfl (World.news_of_block (heap_alloc_new w3 _)) (ones _ rfl) (by omega) (by have:=H100.out;unfold maxLen;omega) (by have:=H100.out;omega) (by simp;omega) _ rfl ?_;intro g4 cap4 w4 hO4 hgr4 hat4 hlt4;refine hK.out _ _ (((hX2.drew.later hb3).later (bal _ _)).grown hgr4 (by show some _≠some g;simp;omega)) (fun _=>?_);clear hK K;simp only [zS]
     refine rd 10 qNj10 (fun K hK=>?_);go_simp;refine hK.out _ _ (((hX2.drew.later hb3).later (bal _ _)).grown hgr4 (by show some _≠some g;simp;omega)) (fun _=>?_);clear hK K;refine wpAnyH_done (by kernel_rfl) ?_ _;have Q1:(L.take cap ++ [nd]).length=cap+1:=by simp;omega
     have Q2:w4.ownsRow w.heap.size 166 1 (.slice (some ⟨g4,0,none⟩) (cap+1) cap4) (cap+1) ((L.take cap ++ [nd]).map Tr.val):=by
      rw [List.map_append,List.map_take];exact hO4
     have Q3:sh I (k+1)=some ((L.take cap ++ [nd]).length:Int):=by rw [hst,Q1];congr 1;omega
     have Q4:(L.take cap ++ [nd]).all Tr.ok=lf I (k+1):=by
      have e1:=mkN_ok (I k) (fun j=>L.getD (cap+j) (.num 0)) q hq;rw [HND.out] at e1;rw [List.all_append,lf,←hok,all_split L cap q hr];simp only [List.all_cons,List.all_nil,Bool.and_true,e1]
      rcases leafOK (I k) <;> simp
     have Q5:∀ t∈L.take cap ++ [nd],t.fit:=by
      intro t ht;rcases List.mem_append.1 ht with ht | ht
      · exact hfit t (List.mem_of_mem_take ht)
      ·
       obtain rfl:=List.mem_singleton.1 ht;rw [←HND.out];refine mkN_fit (I k) _ q hq hs fun j hj=>?_;have hjl:cap+j<L.length:=by omega
       have e2:L.getD (cap+j) (.num 0)=L[cap+j]:=by simp [hjl]
       show (L.getD (cap+j) (.num 0)).fit
       rw [e2];exact hfit _ (List.getElem_mem _)
     have Q6:Below w.heap.size w w4:=by
      have x1:Below w.heap.size w w3:=hbw2.trans ((undrew hb3).mono hbw2.size);exact(x1.alloc x1.size _).grown hgr4 (by rw [hAL];omega) (fun j hj=>by have e:g=j:=Option.some.inj hj;omega)
     clear hO4 hgr4 hat4 hO3 hO2 hX2 hb3 hst hok hfit hsh;go_wp2;go_roundw
     case rel=>exact⟨k+1,L.take cap ++ [nd],g4,cap4,by omega,by go_num,by rw [Q1],by rw [Q1];exact Q2,Q3,Q4,Q5,by rw [Q1];omega,stk_step HSTK.out hq hr HND.out,Q6⟩
     case measure=>simp [intOf];omega
    ·
     have hcr':¬(r=cap):=fun e=>hcr e.symm;refine wp_region_held_drew (S:=Bx3 wr.heap.size (I k)) (by kernel_rfl) hX2.drew (fun _=>?_);refine wpAnyH_take (i:=0) (oi:=qNj0) (v:=.slice (some ⟨g,0,none⟩) L.length cap) rfl (by kernel_rfl) (by kernel_rfl) (by kernel_rfl) (fun _ _ _ h=>h) (Or.inl ⟨by rfl,fun w jS=>by go_simp⟩) hX2.drew ?_;simp only [zS]
     refine wpAnyH_take (i:=1) (oi:=qNj1) (v:=.int .i64 (r:Int)) rfl (by kernel_rfl) (by kernel_rfl) (by kernel_rfl) (fun _ _ _ h=>h) (Or.inl ⟨by rfl,fun w jS=>by go_simp⟩) hX2.drew ?_;simp only [zS]
     refine wpAnyH_take (i:=2) (oi:=qNj2) (v:=.slice (some ⟨g,0,none⟩) r cap) rfl (by kernel_rfl) (by kernel_rfl) (by kernel_rfl) (fun _ _ _ h=>h) (Or.inl ⟨by rfl,fun w jS=>by go_simp⟩) hX2.drew ?_;simp only [zS]
     refine wpAnyH_take (i:=3) (oi:=qNj3) (v:=.agg #[.int .i64 (I k).o,.int .i64 (I k).m,.string (I k).s]) rfl (by kernel_rfl) (by kernel_rfl) (by kernel_rfl) (fun _ _ _ h=>h) (Or.inl ⟨by rfl,fun w jS=>by obtain⟨x0,x1,x2⟩:=jS;go_simp⟩) hX2.drew ?_;simp only [zS]
     refine wpAnyH_take (i:=4) (oi:=qNj4) (v:=.slice (some ⟨g,0,none⟩) L.length cap) rfl (by kernel_rfl) (by kernel_rfl) (by kernel_rfl) (fun _ _ _ h=>h) (Or.inl ⟨by rfl,fun w jS=>by go_simp⟩) hX2.drew ?_;simp only [zS]
     refine wpAnyH_take (i:=5) (oi:=qNj5) (v:=.int .i64 (r:Int)) rfl (by kernel_rfl) (by kernel_rfl) (by kernel_rfl) (fun _ _ _ h=>h) (Or.inl ⟨by rfl,fun w jS=>by go_simp⟩) hX2.drew ?_;simp only [zS]
     refine wpAnyH_take (i:=6) (oi:=qNj6) (v:=.slice (some ⟨g,r,none⟩) (L.length - r) (cap - r)) rfl (by kernel_rfl) (by kernel_rfl) (by kernel_rfl) (fun _ _ _ h=>h) (Or.inl ⟨by rfl,fun w jS=>by go_simp⟩) hX2.drew ?_;simp only [zS]
     have hN:=(nl_own (a:=some ⟨g,r,none⟩) (r:=r) hO2 rfl (L.length - r) (by omega) (fun _=>rfl)).drew;have HM:=fun cc=>iMakeNode (I k).o (I k).m (I k).s _ (L.length - r) cc _ _ hN (by omega) (by omega);obtain⟨nd,hnd⟩:∃ t:Tr,(mkN (I k).o (I k).m (I k).s (fun j=>L.getD (r+j) (.num 0)))=t:=⟨_,rfl⟩;rw [hnd] at HM;have HND:Hid ((mkN (I k).o (I k).m (I k).s (fun j=>L.getD (r+j) (.num 0)))=nd):=hnd;clear hnd hN;refine rd 7 qNj7 (fun K hK=>?_);go_simp;refine(HM _).mono ?_;rintro e w3 ⟨rfl,hb3⟩;refine hK.out _ _ (hX2.drew.later hb3) (fun _=>?_);clear hK K;clear HM;have hO3:=own_below (own_take hO2.drew (r:=r) (by omega)) hb3;have hs3:=hb3.size;have hsb:=hbw2.size;have hAL:∀ o:Obj,(w3.alloc o).heap.size=w3.heap.size+1:=fun o=>by simp
     have hs3d:w2.drew.heap.size=w2.heap.size:=rfl;refine rd 8 qNj8 (fun K hK=>?_);go_simp;refine hK.out _ _ ((hX2.drew.later hb3).later (bal _ _)) (fun _=>?_);clear hK K;refine rd 9 qNj9 (fun K hK=>?_);rw [if_pos (by kernel_rfl)];refine wp_append_lies _ _ _ _ rfl w.heap.size 166 i0 .nilIface 1 16 Tryz.underlying196 HI.out hz0 hz1 hz2 rfl (by omega) (.slice (some ⟨g,0,none⟩) r cap) r _ rfl (hO3.alloc _) ⟨w3.heap.size,0,none⟩ 1 1 [.iface nd.ty nd.pay] rfl rfl (World.news_of_block (heap_alloc_new w3 _)) (ones _ rfl) (by omega) (by have:=H100.out;unfold maxLen;omega) (by have:=H100.out;omega) (by simp;omega) _ rfl ?_;intro g4 cap4 w4 hO4 hgr4 hat4 hlt4;refine hK.out _ _ (((hX2.drew.later hb3).later (bal _ _)).grown hgr4 (by show some _≠some g;simp;omega)) (fun _=>?_);clear hK K;simp only [zS]
     refine rd 10 qNj10 (fun K hK=>?_);go_simp;refine hK.out _ _ (((hX2.drew.later hb3).later (bal _ _)).grown hgr4 (by show some _≠some g;simp;omega)) (fun _=>?_);clear hK K;refine wpAnyH_done (by kernel_rfl) ?_ _;have Q1:(L.take r ++ [nd]).length=r+1:=by simp;omega
     have Q2:w4.ownsRow w.heap.size 166 1 (.slice (some ⟨g4,0,none⟩) (r+1) cap4) (r+1) ((L.take r ++ [nd]).map Tr.val):=by
      rw [List.map_append,List.map_take];exact hO4
     have Q3:sh I (k+1)=some ((L.take r ++ [nd]).length:Int):=by rw [hst,Q1];congr 1;omega
     have Q4:(L.take r ++ [nd]).all Tr.ok=lf I (k+1):=by
      have e1:=mkN_ok (I k) (fun j=>L.getD (r+j) (.num 0)) q hq;rw [HND.out] at e1;rw [List.all_append,lf,←hok,all_split L r q hr];simp only [List.all_cons,List.all_nil,Bool.and_true,e1]
      rcases leafOK (I k) <;> simp
     have Q5:∀ t∈L.take r ++ [nd],t.fit:=by
      intro t ht;rcases List.mem_append.1 ht with ht | ht
      · exact hfit t (List.mem_of_mem_take ht)
      ·
       obtain rfl:=List.mem_singleton.1 ht;rw [←HND.out];refine mkN_fit (I k) _ q hq hs fun j hj=>?_;have hjl:r+j<L.length:=by omega
       have e2:L.getD (r+j) (.num 0)=L[r+j]:=by simp [hjl]
       show (L.getD (r+j) (.num 0)).fit
       rw [e2];exact hfit _ (List.getElem_mem _)
     have Q6:Below w.heap.size w w4:=by
      have x1:Below w.heap.size w w3:=hbw2.trans ((undrew hb3).mono hbw2.size);exact(x1.alloc x1.size _).grown hgr4 (by rw [hAL];omega) (fun j hj=>by have e:g=j:=Option.some.inj hj;omega)
     clear hO4 hgr4 hat4 hO3 hO2 hX2 hb3 hst hok hfit hsh;go_wp2;go_roundw
     case rel=>exact⟨k+1,L.take r ++ [nd],g4,cap4,by omega,by go_num,by rw [Q1],by rw [Q1];exact Q2,Q3,Q4,Q5,by rw [Q1];omega,stk_step HSTK.out hq hr HND.out,Q6⟩
     case measure=>simp [intOf];omega
   ·
    rw [if_neg hq0] at hst;have hno:Hid (okExp I n=false):=exp_no (by rw [sh_none hst n (by omega)];simp);go_wp2_with (go_at_call 158;refine(iOperands (I k).o (I k).m (I k).s _).mono ?_;rintro e w2 ⟨rfl,hb2⟩)
    all_goals first
     | exact bodyPost_ret (v:=.tuple #[.nilIface,.bool false]) (by simp [results,Tryz.results126,go_sem]) rfl ⟨bj hb hb2,Or.inl ⟨rfl,hno.out⟩⟩
     | (exfalso;omega)
  ·
   obtain rfl:k=n:=by omega
   by_cases h1:L.length=1
   · obtain⟨t,rfl⟩:=List.length_eq_one_iff.1 h1;have hc:=hO.cellAt 0 (by simp);have hc':wr.cell? ⟨g,0,none⟩=some (.iface t.ty t.pay):=hc;have hyes:Hid (okExp I k=t.ok):=(exp_yes hsh H100.out).trans (by rw [←hok];simp);have hft:=hfit t (by simp);have HS1:Hid (stk I k=[t]):=HSTK.out.symm;clear hO hc hok hsh;go_wp2;exact bodyPost_ret (v:=.tuple #[t.val,.bool true]) (by simp [results,Tryz.results126,go_sem,Tr.val]) rfl ⟨hb,Or.inr ⟨t,rfl,hft,hyes.out,HS1.out⟩⟩
   ·
    have hno:Hid (okExp I k=false):=exp_no (by rw [hsh];simp;omega);have d1:((L.length:Int) != 1)=true:=by simp;omega
    go_wp2;exact bodyPost_ret (v:=.tuple #[.nilIface,.bool false]) (by simp [results,Tryz.results126,go_sem]) rfl ⟨hb,Or.inl ⟨rfl,hno.out⟩⟩
set_option maxRecDepth 20000
set_option maxHeartbeats 2000000
theorem iExpr(b:Nat)(a:Option Addr)(n c:Nat)(I:Nat->Itm)(w:World)(hK:KwAt w b)(h:IL w a n I)(hn:n<=1048576):Calls Tryz.prog 84 #[.map (some b),.slice a n c] w fun e w'=>e=.returned (.bool (okExp I n))/\Below w.heap.size w w':=by
 go_enter Tryz.func84,Tryz.ntmps84
 go_upto_region 2 with (go_at_call 126;refine(iLift a n c I _ h hn).mono ?_;rintro e w1 ⟨hb1,⟨rfl,hno⟩ | ⟨t,rfl,hft,hyes,-⟩⟩)
 ·
  go_wp2;go_ret
  exact⟨retB (by simp [hno]),hb1⟩
 ·
  have hm := hft.1; have he := hft.2.1; unfold Tr.val;go_wp2_with (refine(fits_any b t _ hft (hK.later hb1)).mono ?_;rintro e w2 ⟨rfl,hb2⟩)
  go_ret
  exact⟨retB (by simp [hyes]),bstep hb1 hb2⟩
theorem iCond(b:Nat)(a:Option Addr)(n c:Nat)(I:Nat->Itm)(w:World)(hK:KwAt w b)(h:IL w a n I)(hn:n<=1048576):Calls Tryz.prog 85 #[.map (some b),.slice a n c] w fun e w'=>e=.returned (.bool (okWhere I n))/\Below w.heap.size w w':=by
 have hb0:=Below.refl w.heap.size w;go_enter Tryz.func85,Tryz.ntmps85
 by_cases h0:n=0
 ·
  subst h0;go_wp2;go_ret
  exact⟨retB (by simp [okWhere]),hb0⟩
 ·
  have h0':((n:Int) == 0)=false:=by simp;omega
  go_wp2_with (go_at_call 84;refine(iExpr b a n c I _ hK h hn).mono ?_;rintro e w1 ⟨rfl,hb1⟩)
  go_ret
  exact⟨retB (by simp [okWhere,h0]),hb1⟩
structure Clm where
 s:ByteArray
 t:Int
def CL(w:World)(a:Option Addr)(n:Nat)(C:Nat->Clm):Prop:=
 ∀ k,k<n->∃ b off,a=some ⟨b,off,none⟩/\w.cell? ⟨b,off+k * 2,none⟩=some (.string (C k).s)/\w.cell? ⟨b,off+k * 2+1,none⟩=some (.int .i64 (C k).t)/\(C k).s.size<=1048576
theorem CL.later{w w':World}{a:Option Addr}{n:Nat}{C:Nat->Clm}(h:CL w a n C)(hb:Below w.heap.size w w'):CL w' a n C:=fun k hk=>by
 obtain⟨b,off,e,h0,h1,hs⟩:=h k hk;exact⟨b,off,e,keepB hb h0,keepB hb h1,hs⟩
def OL(w:World)(a:Option Addr)(n:Nat)(m:Nat->Nat)(O:Nat->Nat->Itm):Prop:=
 ∀ k,k<n->∃ b off i c,a=some ⟨b,off,none⟩/\w.cell? ⟨b,off+k,none⟩=some (.slice i (m k) c)/\IL w i (m k) (O k)/\m k<=1048576
theorem OL.later{w w':World}{a:Option Addr}{n:Nat}{m:Nat->Nat}{O:Nat->Nat->Itm}(h:OL w a n m O)(hb:Below w.heap.size w w'):OL w' a n m O:=fun k hk=>by
 obtain⟨b,off,i,c,e,h0,hi,hm⟩:=h k hk;exact⟨b,off,i,c,e,keepB hb h0,hi.later hb,hm⟩
structure St where
 k:Int
 tb:ByteArray
 n2:Nat
 C:Nat->Clm
 n3:Nat
 V:Nat->Itm
 col:ByteArray
 n5:Nat
 E:Nat->Itm
 n6:Nat
 W:Nat->Itm
 n7:Nat
 m7:Nat->Nat
 O:Nat->Nat->Itm
structure Sa where
 a2:Option Addr
 c2:Nat
 a3:Option Addr
 c3:Nat
 a5:Option Addr
 c5:Nat
 a6:Option Addr
 c6:Nat
 a7:Option Addr
 c7:Nat
abbrev cs8 (d:St) (p:Sa):Array Value:=#[.int .i64 d.k,.string d.tb,.slice p.a2 d.n2 p.c2,.slice p.a3 d.n3 p.c3,.string d.col,.slice p.a5 d.n5 p.c5,.slice p.a6 d.n6 p.c6,.slice p.a7 d.n7 p.c7]
structure SM(w:World)(d:St)(p:Sa):Prop where
 tb:d.tb.size<=1048576
 col:d.col.size<=1048576
 co:CL w p.a2 d.n2 d.C
 va:IL w p.a3 d.n3 d.V
 ex:IL w p.a5 d.n5 d.E
 wh:IL w p.a6 d.n6 d.W
 ou:OL w p.a7 d.n7 d.m7 d.O
 l2:d.n2<=1048576
 l3:d.n3<=1048576
 l5:d.n5<=1048576
 l6:d.n6<=1048576
 l7:d.n7<=1048576
theorem SM.later{w w':World}{d:St}{p:Sa}(h:SM w d p)(hb:Below w.heap.size w w'):SM w' d p:=
 ⟨h.tb,h.col,h.co.later hb,h.va.later hb,h.ex.later hb,h.wh.later hb,h.ou.later hb,h.l2,h.l3,h.l5,h.l6,h.l7⟩
structure B8(w:World)(g:Nat)(d:St)(p:Sa):Prop where
 c0:w.cell? ⟨g,0,none⟩=some (.int .i64 d.k)
 c1:w.cell? ⟨g,1,none⟩=some (.string d.tb)
 c2:w.cell? ⟨g,2,none⟩=some (.slice p.a2 d.n2 p.c2)
 c3:w.cell? ⟨g,3,none⟩=some (.slice p.a3 d.n3 p.c3)
 c4:w.cell? ⟨g,4,none⟩=some (.string d.col)
 c5:w.cell? ⟨g,5,none⟩=some (.slice p.a5 d.n5 p.c5)
 c6:w.cell? ⟨g,6,none⟩=some (.slice p.a6 d.n6 p.c6)
 c7:w.cell? ⟨g,7,none⟩=some (.slice p.a7 d.n7 p.c7)
theorem B8.new(w:World)(d:St)(p:Sa)(t:TypeId):B8 (w.alloc (.cells (cs8 d p) t)) w.heap.size d p:=
 ⟨(cell_of_row _ _ 0 _ _ _ (heap_alloc_new w _)).trans rfl,(cell_of_row _ _ 1 _ _ _ (heap_alloc_new w _)).trans rfl,(cell_of_row _ _ 2 _ _ _ (heap_alloc_new w _)).trans rfl,(cell_of_row _ _ 3 _ _ _ (heap_alloc_new w _)).trans rfl,(cell_of_row _ _ 4 _ _ _ (heap_alloc_new w _)).trans rfl,(cell_of_row _ _ 5 _ _ _ (heap_alloc_new w _)).trans rfl,(cell_of_row _ _ 6 _ _ _ (heap_alloc_new w _)).trans rfl,(cell_of_row _ _ 7 _ _ _ (heap_alloc_new w _)).trans rfl⟩
theorem B8.later{w w':World}{g:Nat}{d:St}{p:Sa}(h:B8 w g d p)(hb:Below w.heap.size w w'):B8 w' g d p:=
 ⟨keepB hb h.c0,keepB hb h.c1,keepB hb h.c2,keepB hb h.c3,keepB hb h.c4,keepB hb h.c5,keepB hb h.c6,keepB hb h.c7⟩
def allN(n:Nat)(p:Nat->Bool):Bool:=(List.range n).all p
theorem allN_true{n:Nat}{p:Nat->Bool}(h:∀ j,j<n->p j=true):allN n p=true:=by
 unfold allN;rw [List.all_eq_true];exact fun j hj=>h j (List.mem_range.1 hj)
theorem allN_false{n j:Nat}{p:Nat->Bool}(hj:j<n)(h:p j=false):allN n p=false:=by
 unfold allN;rw [List.all_eq_false];exact⟨j,List.mem_range.2 hj,by simp [h]⟩
theorem and_no{n j:Nat}{p:Nat->Bool}(hj:j<n)(h:p j=false∨20<n):(btw n 1 20 && allN n p)=false:=by
 rcases h with h | h
 · rw [allN_false hj h];simp
 ·
  simp [btw]
  intros
  omega
theorem and_yes{n:Nat}{p:Nat->Bool}(h:∀ j,j<n->p j=true)(hm:0<n->n<=20):(btw n 1 20 && allN n p)=decide (0<n):=by
 rw [allN_true h,Bool.eq_iff_iff];simp [btw]
 omega
theorem and_no2{a b:Bool}(h:a=false):(a && b)=false:=by rw [h];rfl
def badS(d:St):Bool:=(d.k != 1 && (d.n2:Int) != 0) || (d.k != 2 && (d.n3:Int) != 0) || (d.k != 3 && (!decide (d.col.size=0) || (d.n5:Int) != 0)) || (d.k != 5 && (d.n7:Int) != 0)
def restS(d:St):Bool:=
 if d.k=1 then btw d.n2 1 20 && allN d.n2 (fun j=>okCol (d.C j).s (d.C j).t)
 else if d.k=2 then btw d.n3 1 20 && allN d.n3 (fun j=>okValue (d.V j).o (d.V j).m (d.V j).s)
 else if d.k=3 then okName d.col && okExp d.E d.n5 && okWhere d.W d.n6
 else if d.k=4 then okWhere d.W d.n6
 else if d.k=5 then btw d.n7 1 20 && allN d.n7 (fun j=>okExp (d.O j) (d.m7 j)) && okWhere d.W d.n6
 else false
def okStm(d:St):Bool:=okName d.tb && !badS d && !(decide (d.k<3) && (d.n6:Int) != 0) && restS d
end Go.Proofs.YtgeiamgeclbiaaaGreatDoor
