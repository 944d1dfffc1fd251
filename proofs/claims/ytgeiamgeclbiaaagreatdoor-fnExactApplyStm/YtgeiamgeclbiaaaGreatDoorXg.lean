import Derived.Test.YtgeiamgeclbiaaaGreatDoorXf
namespace Go.Proofs.YtgeiamgeclbiaaaGreatDoor
open Go.RowKit Go.Maps Go.WideMaps
set_option maxRecDepth 20000
set_option maxHeartbeats 8000000
abbrev qXg0:Oper:=⟨some 5,.load 210 (.tmp 2),210,"l5_replay.go:435",#[],none⟩
abbrev qXg1:Oper:=⟨some 6,.move (.tmp 1),41,"l5_replay.go:435",#[],none⟩
abbrev qXg2:Oper:=⟨some 7,.call ⟨.value (.func 109),#[.tmp 6],#[41]⟩,41,"l5_replay.go:435",#[⟨1,.data⟩],none⟩
abbrev qXg3:Oper:=⟨some 8,.buildSlice 33 1 #[(0,.tmp 7)],33,"l5_replay.go:435",#[⟨2,.data⟩],none⟩
abbrev qXg4:Oper:=⟨some 9,.call ⟨.value (.func 171),#[.tmp 5,.tmp 8],#[210,33]⟩,4,"l5_replay.go:435",#[⟨0,.data⟩,⟨3,.data⟩,⟨2,.chain⟩],none⟩
abbrev qXg5:Oper:=⟨some 10,.unOp .not 4 (.tmp 9),4,"l5_replay.go:435",#[⟨4,.data⟩],none⟩
abbrev qXg6:Oper:=⟨some 5,.load 217 (.tmp 2),217,"l5_replay.go:435",#[],none⟩
abbrev qXg7:Oper:=⟨some 9,.call ⟨.value (.func 176),#[.tmp 5,.tmp 8],#[217,33]⟩,4,"l5_replay.go:435",#[⟨0,.data⟩,⟨3,.data⟩,⟨2,.chain⟩],none⟩
def BlkC(w w':World):Prop:=w.heap.size<=w'.heap.size/\∀ (b:Nat) cur t f,w.heap[b]?=some (Obj.cells cur t f)->w'.heap[b]?=some (Obj.cells cur t f)
theorem BlkC.below{w w':World}(h:Below w.heap.size w w'):BlkC w w':=⟨h.size,fun _ _ _ _ hb=>rowL hb h⟩
theorem BlkC.trans{a b c:World}(h:BlkC a b)(k:BlkC b c):BlkC a c:=⟨Nat.le_trans h.1 k.1,fun x cur t f hb=>k.2 x cur t f (h.2 x cur t f hb)⟩
theorem BlkC.km{K:TypeId}{key:Rw->Lit}{w w':World}{mb:Nat}{L:List Ro}(h:KM K key w mb L)(hg:w.grownBy w' (some mb)):BlkC w w':=by
 obtain⟨D,⟨es,cl,hb,-⟩,-⟩:=h;refine⟨hg.size,fun b cur t f hc=>rowR hc hg ?_⟩;intro e;have e2:b=mb:=Option.some.inj e;rw [e2,hb] at hc;cases hc
def RoAt(w:World)(r:Ro):Prop:=(∃ cur,w.heap[r.b]?=some (.cells cur 66 (0,0))/\r.x.1 * 3<=cur.size)/\IL w (some ⟨r.b,0,none⟩) r.x.1 r.x.2
theorem RoAt.all{w w':World}{r:Ro}(h:RoAt w r)(k:BlkC w w'):RoAt w' r:=by
 obtain⟨⟨cur,h1,h2⟩,h3⟩:=h;refine⟨⟨cur,k.2 _ _ _ _ h1,h2⟩,fun j hj=>?_⟩;obtain⟨b,off,e,c0,c1,c2,hs⟩:=h3 j hj;injection e with e;injection e with e1 e2 e3;subst e1 e2;have hb:w'.heap[r.b]?=w.heap[r.b]?:=(k.2 _ _ _ _ h1).trans h1.symm;exact⟨r.b,0,rfl,(World.cell?_of_block hb).trans c0,(World.cell?_of_block hb).trans c1,(World.cell?_of_block hb).trans c2,hs⟩
theorem RoAt.own{w:World}{G g cap n:Nat}{V:Nat->Itm}(h:w.ownsRow G 66 3 (.slice (some ⟨g,0,none⟩) n cap) n (flt (fun k=>v3 (V k)) n))(hs:∀ k,k<n->(V k).s.size<=1048576):RoAt w ⟨g,cap,(n,V)⟩:=by
 refine⟨?_,own_il h hs⟩;obtain⟨-,h | ⟨g',cap',cur,e,-,h1,h2,-,h3,-⟩⟩:=h
 · cases h.1
 · injection e with e1 e2 e3;injection e1 with e1;injection e1 with e1;subst e1 e3;exact⟨cur,h1,by rw [h3];exact Nat.mul_le_mul_right 3 h2⟩
theorem IL.sz{w:World}{a:Option Addr}{n:Nat}{I:Nat->Itm}(h:IL w a n I){k:Nat}(hk:k<n):(I k).s.size<=1048576:=by
 obtain⟨b,off,-,-,-,-,hs⟩:=h k hk;exact hs
theorem belGr{w w':World}(h:Below w.heap.size w w')(r:Option Nat):w.grownBy w' r:=⟨h.os,h.tape,h.output,h.size,fun k hk _=>h.block k hk⟩
theorem RS.one{w:World}{b:Nat}{r:Ro}{t:TypeId}(h:w.heap[b]?=some (.cells #[.slice (some ⟨r.b,0,none⟩) r.x.1 r.c] t (0,0))):RS w (some ⟨b,0,none⟩) [r]:=fun k hk=>by
 obtain rfl:k=0:=by simpa using hk
 exact⟨b,0,rfl,(box1 h).1⟩
theorem RL.one{w:World}{r:Ro}(h:RoAt w r)(h0:0<r.x.1):RL w [r]:=fun q hq=>by
 rw [List.mem_singleton] at hq;subst hq;exact⟨h.2,h0⟩
def InA(K:TypeId)(key:Rw->Lit)(mb:Nat)(x:Rw)(L:List Ro)(w:World)(e:Ending)(w':World):Prop:=∃ g cap,w.heap.size<=g/\e=.returned (.int .i64 (if hasK key L (key x)=true then 5 else if L.length=1000 then 6 else 0))/\KM K key w' mb (if hasK key L (key x)=true then L else L ++ [⟨g,cap,x⟩])/\RoAt w' ⟨g,cap,x⟩/\w.grownBy w' (some mb)
theorem addL_one1(key:Rw->Lit)(L:List Ro)(r:Ro):addL key L [r]=if hasK key L (key r.x)=true then (false,L) else (true,L ++ [r]):=by
 unfold addL;split <;> rfl
theorem iInsI(mb:Nat)(a:Option Addr)(n c:Nat)(V:Nat->Itm)(L:List Ro)(w:World)(hM:KM 3 kI w mb L)(hV:IL w a n V)(h0:0<n)(hn:n<=1048576)(hLn:L.length<=1000)(hK0:keyOf Tryz.prog 3 (.int .i64 (V 0).m)=some (kI (n,V))) :
 Calls Tryz.prog 172 #[.agg #[.map (some mb),.func (.func 119) #[] #[]],.slice a n c] w (InA 3 kI mb (n,V) L w):=by
 have hbU:=bal w (.cells #[.map (some mb),.func (.func 119) #[] #[]] 210);have hq:=heap_alloc_new w (.cells #[.map (some mb),.func (.func 119) #[] #[]] 210);have hml:=hM.lt;have hVs:∀ k,k<n->(V k).s.size<=1048576:=fun k hk=>hV.sz hk;rcases hh:hasK kI L (kI (n,V))
 ·
  go_enter Tryz.func172,Tryz.ntmps172
  go_wp2;refine wp_region_held_drew (S:=fun x=>x.heap[w.heap.size]?=some (.cells #[.map (some mb),.func (.func 119) #[] #[]] 210 (0,0))) (by kernel_rfl) (hq) (fun jH=>?_);have hbv:Below w.heap.size w (w.alloc (.cells #[.map (some mb),.func (.func 119) #[] #[]] 210)).drew:=bstep hbU (bdrew _);have hM1:KM 3 kI (w.alloc (.cells #[.map (some mb),.func (.func 119) #[] #[]] 210)).drew mb L:=hM.later hbv;generalize (w.alloc (.cells #[.map (some mb),.func (.func 119) #[] #[]] 210)).drew=v at jH hbv hM1 ⊢;refine tk 0 qXg0 (fun x jS=>by obtain⟨m0_,m1_⟩:=box2 jS;go_simp<;>rfl) jH ?_
  try simp only [zS]
  refine tk 1 qXg1 (fun x jS=>by go_simp<;>rfl) jH ?_
  try simp only [zS]
  refine rd 2 qXg2 (fun K hK=>?_);go_simp;refine(iCloneV a n c V v (hV.later hbv) h0 hn).mono ?_;rintro e v1 ⟨g,cap,rfl,hOg,hb1⟩;have hgl:=hOg.lt g rfl;have hsw:=hbv.size;refine hK.out _ _ (rowL jH hb1) (fun jH=>?_);clear hK K;try simp only [zS]
  replace hbv:=bstep hbv hb1;replace hM1:=hM1.later hb1;have hsv:=hb1.size;have hRo:=RoAt.own hOg hVs;clear hOg;refine rd 3 qXg3 (fun K hK=>?_);have hqN:=heap_alloc_new v1 (.cells #[.slice (some ⟨g,0,none⟩) n cap] 41);have hbN:=bal v1 (.cells #[.slice (some ⟨g,0,none⟩) n cap] 41);go_simp;refine hK.out _ _ (rowL jH hbN) (fun jH=>?_);clear hK K;try simp only [zS]
  replace hbv:=bstep hbv hbN;replace hM1:=hM1.later hbN;replace hRo:=hRo.all (BlkC.below hbN);generalize v1.heap.size=BN at hqN ⊢;generalize v1.alloc (.cells #[.slice (some ⟨g,0,none⟩) n cap] 41)=v2 at hqN jH hbv hM1 hbN hRo ⊢;refine rd 4 qXg4 (fun K hK=>?_);have hAD:=iAddI mb (some ⟨BN,0,none⟩) 1 L [⟨g,cap,(n,V)⟩] v2 hM1 (RS.one hqN) (RL.one hRo h0) (by simp;omega) (fun r hr=>by rw [List.mem_singleton] at hr;subst hr;exact hK0);rw [addL_one1] at hAD;dsimp only at hAD
  rw [hh] at hAD;simp only [Bool.false_eq_true,if_false,List.length_singleton] at hAD
  go_simp;refine hAD.mono ?_;rintro e v3 ⟨rfl,hM3,hg3⟩;refine hK.out _ _ (rowK jH hg3 (by omega)) (fun jH=>?_);clear hK K hAD;try simp only [zS]
  replace hRo:=hRo.all (BlkC.km hM1 hg3);refine tk 5 qXg5 (fun x jS=>by go_simp<;>rfl) jH ?_
  try simp only [zS]
  refine wpAnyH_done (by kernel_rfl) ?_ _;have HG:Hid (w.grownBy v3 (some mb)):=(belGr hbv _).trans hg3;have HRo:Hid (RoAt v3 ⟨g,cap,(n,V)⟩):=hRo;obtain⟨D,hD,hMC⟩:=hM3;obtain⟨m0_,m1_⟩:=box2 jH;have hsz:Maps.size D=L.length+1:=by rw [hMC.size,mcL_len];simp
  clear hRo hg3;by_cases hL1:L.length=1000
  ·
   have hgt:(1000:Int)<(L.length:Int)+1:=by omega
   go_wp2_with (first | (at_len;refine wpList_len_own _ rfl _ 208 rfl 3 41 Tryz.underlying208 rowE mb _ D rfl hD ?_;rw [hsz]) | go_in)
   go_ret
   exact⟨g,cap,by omega,by rw [hh];simp [hL1],by rw [hh];exact⟨D,hD,hMC⟩,HRo.out,HG.out⟩
  ·
   have hgt:¬(1000:Int)<(L.length:Int)+1:=by omega
   go_wp2_with (first | (at_len;refine wpList_len_own _ rfl _ 208 rfl 3 41 Tryz.underlying208 rowE mb _ D rfl hD ?_;rw [hsz]) | go_in)
   go_ret
   exact⟨g,cap,by omega,by rw [hh];simp [hL1],by rw [hh];exact⟨D,hD,hMC⟩,HRo.out,HG.out⟩
 ·
  go_enter Tryz.func172,Tryz.ntmps172
  go_wp2;refine wp_region_held_drew (S:=fun x=>x.heap[w.heap.size]?=some (.cells #[.map (some mb),.func (.func 119) #[] #[]] 210 (0,0))) (by kernel_rfl) (hq) (fun jH=>?_);have hbv:Below w.heap.size w (w.alloc (.cells #[.map (some mb),.func (.func 119) #[] #[]] 210)).drew:=bstep hbU (bdrew _);have hM1:KM 3 kI (w.alloc (.cells #[.map (some mb),.func (.func 119) #[] #[]] 210)).drew mb L:=hM.later hbv;generalize (w.alloc (.cells #[.map (some mb),.func (.func 119) #[] #[]] 210)).drew=v at jH hbv hM1 ⊢;refine tk 0 qXg0 (fun x jS=>by obtain⟨m0_,m1_⟩:=box2 jS;go_simp<;>rfl) jH ?_
  try simp only [zS]
  refine tk 1 qXg1 (fun x jS=>by go_simp<;>rfl) jH ?_
  try simp only [zS]
  refine rd 2 qXg2 (fun K hK=>?_);go_simp;refine(iCloneV a n c V v (hV.later hbv) h0 hn).mono ?_;rintro e v1 ⟨g,cap,rfl,hOg,hb1⟩;have hgl:=hOg.lt g rfl;have hsw:=hbv.size;refine hK.out _ _ (rowL jH hb1) (fun jH=>?_);clear hK K;try simp only [zS]
  replace hbv:=bstep hbv hb1;replace hM1:=hM1.later hb1;have hsv:=hb1.size;have hRo:=RoAt.own hOg hVs;clear hOg;refine rd 3 qXg3 (fun K hK=>?_);have hqN:=heap_alloc_new v1 (.cells #[.slice (some ⟨g,0,none⟩) n cap] 41);have hbN:=bal v1 (.cells #[.slice (some ⟨g,0,none⟩) n cap] 41);go_simp;refine hK.out _ _ (rowL jH hbN) (fun jH=>?_);clear hK K;try simp only [zS]
  replace hbv:=bstep hbv hbN;replace hM1:=hM1.later hbN;replace hRo:=hRo.all (BlkC.below hbN);generalize v1.heap.size=BN at hqN ⊢;generalize v1.alloc (.cells #[.slice (some ⟨g,0,none⟩) n cap] 41)=v2 at hqN jH hbv hM1 hbN hRo ⊢;refine rd 4 qXg4 (fun K hK=>?_);have hAD:=iAddI mb (some ⟨BN,0,none⟩) 1 L [⟨g,cap,(n,V)⟩] v2 hM1 (RS.one hqN) (RL.one hRo h0) (by simp;omega) (fun r hr=>by rw [List.mem_singleton] at hr;subst hr;exact hK0);rw [addL_one1] at hAD;dsimp only at hAD
  rw [hh] at hAD;simp only [if_true,List.length_singleton] at hAD
  go_simp;refine hAD.mono ?_;rintro e v3 ⟨rfl,hM3,hg3⟩;refine hK.out _ _ (rowK jH hg3 (by omega)) (fun jH=>?_);clear hK K hAD;try simp only [zS]
  replace hRo:=hRo.all (BlkC.km hM1 hg3);refine tk 5 qXg5 (fun x jS=>by go_simp<;>rfl) jH ?_
  try simp only [zS]
  refine wpAnyH_done (by kernel_rfl) ?_ _;have HG:Hid (w.grownBy v3 (some mb)):=(belGr hbv _).trans hg3;have HRo:Hid (RoAt v3 ⟨g,cap,(n,V)⟩):=hRo;clear hRo hg3;go_wp2;go_ret
  exact⟨g,cap,by omega,by rw [hh];rfl,by rw [hh];exact hM3,HRo.out,HG.out⟩
theorem iInsS(mb:Nat)(a:Option Addr)(n c:Nat)(V:Nat->Itm)(L:List Ro)(w:World)(hM:KM 9 kS w mb L)(hV:IL w a n V)(h0:0<n)(hn:n<=1048576)(hLn:L.length<=1000)(hK0:keyOf Tryz.prog 9 (.string (V 0).s)=some (kS (n,V))) :
 Calls Tryz.prog 177 #[.agg #[.map (some mb),.func (.func 121) #[] #[]],.slice a n c] w (InA 9 kS mb (n,V) L w):=by
 have hbU:=bal w (.cells #[.map (some mb),.func (.func 121) #[] #[]] 217);have hq:=heap_alloc_new w (.cells #[.map (some mb),.func (.func 121) #[] #[]] 217);have hml:=hM.lt;have hVs:∀ k,k<n->(V k).s.size<=1048576:=fun k hk=>hV.sz hk;rcases hh:hasK kS L (kS (n,V))
 ·
  go_enter Tryz.func177,Tryz.ntmps177
  go_wp2;refine wp_region_held_drew (S:=fun x=>x.heap[w.heap.size]?=some (.cells #[.map (some mb),.func (.func 121) #[] #[]] 217 (0,0))) (by kernel_rfl) (hq) (fun jH=>?_);have hbv:Below w.heap.size w (w.alloc (.cells #[.map (some mb),.func (.func 121) #[] #[]] 217)).drew:=bstep hbU (bdrew _);have hM1:KM 9 kS (w.alloc (.cells #[.map (some mb),.func (.func 121) #[] #[]] 217)).drew mb L:=hM.later hbv;generalize (w.alloc (.cells #[.map (some mb),.func (.func 121) #[] #[]] 217)).drew=v at jH hbv hM1 ⊢;refine tk 0 qXg6 (fun x jS=>by obtain⟨m0_,m1_⟩:=box2 jS;go_simp<;>rfl) jH ?_
  try simp only [zS]
  refine tk 1 qXg1 (fun x jS=>by go_simp<;>rfl) jH ?_
  try simp only [zS]
  refine rd 2 qXg2 (fun K hK=>?_);go_simp;refine(iCloneV a n c V v (hV.later hbv) h0 hn).mono ?_;rintro e v1 ⟨g,cap,rfl,hOg,hb1⟩;have hgl:=hOg.lt g rfl;have hsw:=hbv.size;refine hK.out _ _ (rowL jH hb1) (fun jH=>?_);clear hK K;try simp only [zS]
  replace hbv:=bstep hbv hb1;replace hM1:=hM1.later hb1;have hsv:=hb1.size;have hRo:=RoAt.own hOg hVs;clear hOg;refine rd 3 qXg3 (fun K hK=>?_);have hqN:=heap_alloc_new v1 (.cells #[.slice (some ⟨g,0,none⟩) n cap] 41);have hbN:=bal v1 (.cells #[.slice (some ⟨g,0,none⟩) n cap] 41);go_simp;refine hK.out _ _ (rowL jH hbN) (fun jH=>?_);clear hK K;try simp only [zS]
  replace hbv:=bstep hbv hbN;replace hM1:=hM1.later hbN;replace hRo:=hRo.all (BlkC.below hbN);generalize v1.heap.size=BN at hqN ⊢;generalize v1.alloc (.cells #[.slice (some ⟨g,0,none⟩) n cap] 41)=v2 at hqN jH hbv hM1 hbN hRo ⊢;refine rd 4 qXg7 (fun K hK=>?_);have hAD:=iAddS mb (some ⟨BN,0,none⟩) 1 L [⟨g,cap,(n,V)⟩] v2 hM1 (RS.one hqN) (RL.one hRo h0) (by simp;omega) (fun r hr=>by rw [List.mem_singleton] at hr;subst hr;exact hK0);rw [addL_one1] at hAD;dsimp only at hAD
  rw [hh] at hAD;simp only [Bool.false_eq_true,if_false,List.length_singleton] at hAD
  go_simp;refine hAD.mono ?_;rintro e v3 ⟨rfl,hM3,hg3⟩;refine hK.out _ _ (rowK jH hg3 (by omega)) (fun jH=>?_);clear hK K hAD;try simp only [zS]
  replace hRo:=hRo.all (BlkC.km hM1 hg3);refine tk 5 qXg5 (fun x jS=>by go_simp<;>rfl) jH ?_
  try simp only [zS]
  refine wpAnyH_done (by kernel_rfl) ?_ _;have HG:Hid (w.grownBy v3 (some mb)):=(belGr hbv _).trans hg3;have HRo:Hid (RoAt v3 ⟨g,cap,(n,V)⟩):=hRo;obtain⟨D,hD,hMC⟩:=hM3;obtain⟨m0_,m1_⟩:=box2 jH;have hsz:Maps.size D=L.length+1:=by rw [hMC.size,mcL_len];simp
  clear hRo hg3;by_cases hL1:L.length=1000
  ·
   have hgt:(1000:Int)<(L.length:Int)+1:=by omega
   go_wp2_with (first | (at_len;refine wpList_len_own _ rfl _ 215 rfl 9 41 Tryz.underlying215 rowE mb _ D rfl hD ?_;rw [hsz]) | go_in)
   go_ret
   exact⟨g,cap,by omega,by rw [hh];simp [hL1],by rw [hh];exact⟨D,hD,hMC⟩,HRo.out,HG.out⟩
  ·
   have hgt:¬(1000:Int)<(L.length:Int)+1:=by omega
   go_wp2_with (first | (at_len;refine wpList_len_own _ rfl _ 215 rfl 9 41 Tryz.underlying215 rowE mb _ D rfl hD ?_;rw [hsz]) | go_in)
   go_ret
   exact⟨g,cap,by omega,by rw [hh];simp [hL1],by rw [hh];exact⟨D,hD,hMC⟩,HRo.out,HG.out⟩
 ·
  go_enter Tryz.func177,Tryz.ntmps177
  go_wp2;refine wp_region_held_drew (S:=fun x=>x.heap[w.heap.size]?=some (.cells #[.map (some mb),.func (.func 121) #[] #[]] 217 (0,0))) (by kernel_rfl) (hq) (fun jH=>?_);have hbv:Below w.heap.size w (w.alloc (.cells #[.map (some mb),.func (.func 121) #[] #[]] 217)).drew:=bstep hbU (bdrew _);have hM1:KM 9 kS (w.alloc (.cells #[.map (some mb),.func (.func 121) #[] #[]] 217)).drew mb L:=hM.later hbv;generalize (w.alloc (.cells #[.map (some mb),.func (.func 121) #[] #[]] 217)).drew=v at jH hbv hM1 ⊢;refine tk 0 qXg6 (fun x jS=>by obtain⟨m0_,m1_⟩:=box2 jS;go_simp<;>rfl) jH ?_
  try simp only [zS]
  refine tk 1 qXg1 (fun x jS=>by go_simp<;>rfl) jH ?_
  try simp only [zS]
  refine rd 2 qXg2 (fun K hK=>?_);go_simp;refine(iCloneV a n c V v (hV.later hbv) h0 hn).mono ?_;rintro e v1 ⟨g,cap,rfl,hOg,hb1⟩;have hgl:=hOg.lt g rfl;have hsw:=hbv.size;refine hK.out _ _ (rowL jH hb1) (fun jH=>?_);clear hK K;try simp only [zS]
  replace hbv:=bstep hbv hb1;replace hM1:=hM1.later hb1;have hsv:=hb1.size;have hRo:=RoAt.own hOg hVs;clear hOg;refine rd 3 qXg3 (fun K hK=>?_);have hqN:=heap_alloc_new v1 (.cells #[.slice (some ⟨g,0,none⟩) n cap] 41);have hbN:=bal v1 (.cells #[.slice (some ⟨g,0,none⟩) n cap] 41);go_simp;refine hK.out _ _ (rowL jH hbN) (fun jH=>?_);clear hK K;try simp only [zS]
  replace hbv:=bstep hbv hbN;replace hM1:=hM1.later hbN;replace hRo:=hRo.all (BlkC.below hbN);generalize v1.heap.size=BN at hqN ⊢;generalize v1.alloc (.cells #[.slice (some ⟨g,0,none⟩) n cap] 41)=v2 at hqN jH hbv hM1 hbN hRo ⊢;refine rd 4 qXg7 (fun K hK=>?_);have hAD:=iAddS mb (some ⟨BN,0,none⟩) 1 L [⟨g,cap,(n,V)⟩] v2 hM1 (RS.one hqN) (RL.one hRo h0) (by simp;omega) (fun r hr=>by rw [List.mem_singleton] at hr;subst hr;exact hK0);rw [addL_one1] at hAD;dsimp only at hAD
  rw [hh] at hAD;simp only [if_true,List.length_singleton] at hAD
  go_simp;refine hAD.mono ?_;rintro e v3 ⟨rfl,hM3,hg3⟩;refine hK.out _ _ (rowK jH hg3 (by omega)) (fun jH=>?_);clear hK K hAD;try simp only [zS]
  replace hRo:=hRo.all (BlkC.km hM1 hg3);refine tk 5 qXg5 (fun x jS=>by go_simp<;>rfl) jH ?_
  try simp only [zS]
  refine wpAnyH_done (by kernel_rfl) ?_ _;have HG:Hid (w.grownBy v3 (some mb)):=(belGr hbv _).trans hg3;have HRo:Hid (RoAt v3 ⟨g,cap,(n,V)⟩):=hRo;clear hRo hg3;go_wp2;go_ret
  exact⟨g,cap,by omega,by rw [hh];rfl,by rw [hh];exact hM3,HRo.out,HG.out⟩
end Go.Proofs.YtgeiamgeclbiaaaGreatDoor
