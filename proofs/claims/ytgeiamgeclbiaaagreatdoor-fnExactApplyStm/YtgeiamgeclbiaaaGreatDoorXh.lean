import Derived.Test.YtgeiamgeclbiaaaGreatDoorXg
namespace Go.Proofs.YtgeiamgeclbiaaaGreatDoor
open Go.RowKit Go.Maps Go.WideMaps
set_option maxRecDepth 20000
set_option maxHeartbeats 16000000
abbrev qXh0:Oper:=⟨some 33,.move (.tmp 10),33,"l5_replay.go:450",#[],none⟩
abbrev qXh1:Oper:=⟨some 34,.move (.tmp 11),3,"l5_replay.go:450",#[],none⟩
abbrev qXh2:Oper:=⟨some 35,.indexAddr 33 (.tmp 33) (.tmp 34),0,"l5_replay.go:450",#[⟨0,.data⟩,⟨1,.data⟩],none⟩
abbrev qXh3:Oper:=⟨some 36,.load 41 (.tmp 35),41,"l5_replay.go:450",#[⟨2,.data⟩],none⟩
abbrev qXh4:Oper:=⟨some 37,.fieldAddr 79 (.tmp 5) 1,0,"l5_replay.go:450",#[],none⟩
abbrev qXh5:Oper:=⟨some 38,.load 77 (.tmp 37),77,"l5_replay.go:450",#[⟨4,.data⟩],none⟩
abbrev qXh6:Oper:=⟨some 39,.fieldAddr 45 (.tmp 7) 4,0,"l5_replay.go:450",#[],none⟩
abbrev qXh7:Oper:=⟨some 40,.load 9 (.tmp 39),9,"l5_replay.go:450",#[⟨6,.data⟩],none⟩
abbrev qXh8:Oper:=⟨some 41,.lookup 77 (.tmp 38) (.tmp 40) false,3,"l5_replay.go:450",#[⟨5,.data⟩,⟨7,.data⟩],none⟩
abbrev qXh9:Oper:=⟨some 42,.load 79 (.tmp 5),79,"l5_replay.go:450",#[],none⟩
abbrev qXh10:Oper:=⟨some 43,.fieldAddr 45 (.tmp 7) 5,0,"l5_replay.go:450",#[],none⟩
abbrev qXh11:Oper:=⟨some 44,.load 42 (.tmp 43),42,"l5_replay.go:450",#[⟨10,.data⟩],none⟩
abbrev qXh12:Oper:=⟨some 45,.move (.tmp 12),41,"l5_replay.go:450",#[],none⟩
abbrev qXh13:Oper:=⟨some 46,.call ⟨.value (.func 90),#[.tmp 42,.tmp 44,.tmp 45],#[79,42,41]⟩,66,"l5_replay.go:450",#[⟨9,.data⟩,⟨11,.data⟩,⟨12,.data⟩],none⟩
abbrev qXh14:Oper:=⟨some 47,.indexAddr 41 (.tmp 36) (.tmp 41),0,"l5_replay.go:450",#[⟨3,.data⟩,⟨8,.data⟩,⟨0,.phase⟩,⟨1,.phase⟩,⟨2,.phase⟩,⟨3,.phase⟩,⟨4,.phase⟩,⟨5,.phase⟩,⟨6,.phase⟩,⟨7,.phase⟩,⟨8,.phase⟩,⟨9,.phase⟩,⟨10,.phase⟩,⟨11,.phase⟩,⟨12,.phase⟩,⟨13,.phase⟩],none⟩
abbrev qXh15:Oper:=⟨none,.store 66 (.tmp 47) (.tmp 46),0,"l5_replay.go:450",#[⟨14,.data⟩,⟨13,.data⟩,⟨13,.chain⟩,⟨0,.phase⟩,⟨1,.phase⟩,⟨2,.phase⟩,⟨3,.phase⟩,⟨4,.phase⟩,⟨5,.phase⟩,⟨6,.phase⟩,⟨7,.phase⟩,⟨8,.phase⟩,⟨9,.phase⟩,⟨10,.phase⟩,⟨11,.phase⟩,⟨12,.phase⟩,⟨13,.phase⟩],none⟩
def chF(C:Nat->Clm)(n q:Nat)(E:Nat->Itm)(n5:Nat)(x:Rw):Rw:=(x.1,upd x.2 q (vlR C n x.2 E n5))
def bgF(C:Nat->Clm)(n:Nat)(E:Nat->Itm)(n5:Nat)(x:Rw):Bool:=decide (200<(vlR C n x.2 E n5).s.size)
theorem plRun{w:World}{b n:Nat}{C:Nat->Clm}{s:ByteArray}{q:Nat}(h:PlAt w b n C)(hdp:∀ k,k<n->hasCol C (C k).s k=false)(hq:colI C s n=some q)(hs:s.size<=1048576):(Instr.lookup 77 (.map (some b)) (.string s) false).run Tryz.prog w=.ok (.int .i64 (q:Int)) w:=by
 have hkey:keyOf Tryz.prog 9 (.string s)=some (litS s):=keyOf_string_mk Tryz.underlying9 (by unfold maxLen;omega);obtain⟨c,hrun,hat,-⟩:=World.ownsMap.lookup_int h lawS Tryz.underlying77 Tryz.underlying3 (zeroI _) hkey;rw [pl_at hdp hq] at hat;obtain rfl:(q:Int)=c:=by simpa using hat
 exact hrun
theorem own_grown{w w':World}{base e size n g cap:Nat}{xs:List Value}{r:Option Nat}(h:w.ownsRow base e size (.slice (some ⟨g,0,none⟩) n cap) n xs)(hg:w.grownBy w' r)(hne:some g≠r):w'.ownsRow base e size (.slice (some ⟨g,0,none⟩) n cap) n xs:=by
 obtain⟨h1,h2 | ⟨g',cap',cur,e',h3,h4,h5⟩⟩:=h
 · exact⟨h1,Or.inl h2⟩
 ·
  obtain⟨rfl,rfl⟩:g=g'/\cap=cap':=by simpa using e'
  exact⟨h1,Or.inr ⟨g,cap,cur,rfl,h3,rowR h4 hg hne,h5⟩⟩
theorem gset(w:World)(b i:Nat)(v:Value):w.grownBy (w.setCell ⟨b,i,none⟩ v) (some b):=⟨rfl,rfl,rfl,by rw [World.size_setCell];exact Nat.le_refl _,fun k _ hne=>Below.heap_setCell _ _ _ _ (fun e=>hne (by rw [e]))⟩
theorem lon_upd{F:Nat->Itm}{q:Nat}{y:Itm}:∀ {n:Nat},(∀ j,j<n->(F j).s.size<=200)->q<n->(200<lonI (upd F q y) n↔200<y.s.size):=by
 intro n;have low:∀ m,m<=q->(∀ j,j<m->(F j).s.size<=200)->lonI (upd F q y) m<=200:=by
  intro m;induction m with
  | zero=>intro _ _;simp [lonI]
  | succ m ih=>
   intro hm hF;have h1:=ih (by omega) (fun j hj=>hF j (by omega));have h2:=hF m (by omega);rw [lonI,show upd F q y m=F m from by unfold upd;rw [if_neg (by omega)]]
   omega
 induction n with
 | zero=>intro _ h;omega
 | succ n ih=>
  intro hF hq;rw [lonI];by_cases e:n=q
  ·
   subst e;have:=low n (Nat.le_refl _) (fun j hj=>hF j (by omega));rw [show upd F n y n=y from by unfold upd;rw [if_pos rfl]]
   omega
  ·
   have h1:=ih (fun j hj=>hF j (by omega)) (by omega);have h2:=hF n (by omega);rw [show upd F q y n=F n from by unfold upd;rw [if_neg e]]
   omega
def UpP(K:TypeId)(key:Rw->Lit)(mb:Nat)(L:List Ro)(X:List Rw)(f:Rw->Rw)(g:Rw->Bool)(w:World)(e:Ending)(w':World):Prop:=
 w.grownBy w' (some mb)/\((X.any g=true/\e=.returned (.int .i64 6)/\KM K key w' mb L)∨(X.any g=false/\∃ Cs:List Ro,Cs.map Ro.x=X.map f/\(∀ r∈Cs,RoAt w' r/\w.heap.size<=r.b)/\(Cs.map Ro.b).Nodup/\e=.returned (.int .i64 (if (addL key (delL key L X) Cs).1=true then 0 else 5))/\KM K key w' mb (addL key (delL key L X) Cs).2))
theorem delL_len(key:Rw->Lit):∀ (X:List Rw) (L:List Ro),(delL key L X).length<=L.length
 | [],_=>Nat.le_refl _
 | _ :: X,L=>Nat.le_trans (delL_len key X _) (delK_len key L _)
theorem take_one{X:List Rw}{k:Nat}(h:k<X.length):X.take (k+1)=X.take k ++ [X.getD k r0]:=by
 rw [List.take_succ_eq_append_getElem h];simp [h]
theorem getD_last{A:List Ro}{r:Ro}{k:Nat}(h:A.length=k):(A ++ [r]).getD k o0=r:=by subst h;simp
theorem getD_init{A:List Ro}{r:Ro}{j:Nat}(h:j<A.length):(A ++ [r]).getD j o0=A.getD j o0:=by simp [List.getElem?_append_left h]
theorem RoAt.set{w:World}{r:Ro}{b i:Nat}{v:Value}(h:RoAt w r)(hb:r.b≠b):RoAt (w.setCell ⟨b,i,none⟩ v) r:=by
 obtain⟨⟨cur,h1,h2⟩,h3⟩:=h;refine⟨⟨cur,rowO h1 (by omega),h2⟩,fun j hj=>?_⟩;obtain⟨b',off,e,c0,c1,c2,hs⟩:=h3 j hj;injection e with e;injection e with e1 e2 e3;subst e1 e2;have hh:(w.setCell ⟨b,i,none⟩ v).heap[r.b]?=w.heap[r.b]?:=Below.heap_setCell _ _ _ _ hb;exact⟨r.b,0,rfl,(World.cell?_of_block hh).trans c0,(World.cell?_of_block hh).trans c1,(World.cell?_of_block hh).trans c2,hs⟩
def RC(w4 w:World)(r:Ro):Prop:=RoAt w r/\w4.heap.size<r.b/\r.b<w.heap.size
theorem RC.imp3{w4 w w':World}{r:Ro}(h:RC w4 w r)(hb:Below w.heap.size w w'):RC w4 w' r:=⟨h.1.all (BlkC.below hb),h.2.1,Nat.lt_of_lt_of_le h.2.2 hb.size⟩
theorem RC.set{w4 w:World}{r:Ro}{b i:Nat}{v:Value}(h:RC w4 w r)(hb:r.b≠b):RC w4 (w.setCell ⟨b,i,none⟩ v) r:=⟨h.1.set hb,h.2.1,by rw [World.size_setCell];exact h.2.2⟩
theorem own_blkY{w:World}{G g cap n:Nat}{xs:List Value}(h:w.ownsRow G 66 3 (.slice (some ⟨g,0,none⟩) n cap) n xs)(q:Nat)(y:Itm):∃ cur,(((w.setCell ⟨g,q * 3,none⟩ (.int .i64 y.o)).setCell ⟨g,q * 3+1,none⟩ (.int .i64 y.m)).setCell ⟨g,q * 3+2,none⟩ (.string y.s)).heap[g]?=some (.cells cur 66 (0,0))/\n * 3<=cur.size:=by
 obtain⟨-,h | ⟨g',cap',cur,e,-,h1,h2,-,h3,-⟩⟩:=h
 · cases h.1
 ·
  obtain⟨rfl,rfl⟩:g=g'/\cap=cap':=by simpa using e
  exact⟨_,heap_setCell_same _ _ _ _ _ _ (heap_setCell_same _ _ _ _ _ _ (heap_setCell_same _ _ _ _ _ _ h1)),by simp [h3];exact Nat.mul_le_mul_right 3 h2⟩
theorem iUpdI(mb:Nat)(L:List Ro)(ac:Option Addr)(n cc:Nat)(C:Nat->Clm)(pb:Nat)(ar:Option Addr)(dr cr:Nat)(dm:Nat->Nat)(dR:Nat->Nat->Itm)(k0:Int)(tb:ByteArray)(a2:Option Addr)(n2 c2:Nat)(a3:Option Addr)(n3 c3:Nat)(col:ByteArray)(a5:Option Addr)(n5 c5:Nat)(a6:Option Addr)(n6 c6:Nat)(a7:Option Addr)(n7 c7:Nat)(E W:Nat->Itm)(q:Nat)(X:List Rw)(w:World)
 (hM:KM 3 kI w mb L) (hP:PlAt w pb n C) (hdp:∀ k,k<n->hasCol C (C k).s k=false) (hR:OL w ar dr dm dR) (hE:IL w a5 n5 E) (hW:IL w a6 n6 W) (hok:okWhere W n6=true) (hcw:cwR C n W n6=0) (hokE:okExp E n5=true) (hck:(ck C n E n5).2=0) (hq:colI C col n=some q) (hcs:col.size<=1048576) (hN:Nice n dr dm dR) (hg:∀ k,k<dr->goodR n C (dR k)) (hX:ftS C n dm dR W n6 dr=X) (hLn:L.length<=1000) (hdr:dr<=1000)
 (hK1:∀ x∈X,keyOf Tryz.prog 3 (.int .i64 (x.2 0).m)=some (kI x)) (hK2:∀ x∈X,keyOf Tryz.prog 3 (.int .i64 ((chF C n q E n5 x).2 0).m)=some (kI (chF C n q E n5 x))) :
 Calls Tryz.prog 173 #[.agg #[.map (some mb),.func (.func 119) #[] #[]],.agg #[.slice ac n cc,.map (some pb)],.slice ar dr cr,.agg #[.int .i64 k0,.string tb,.slice a2 n2 c2,.slice a3 n3 c3,.string col,.slice a5 n5 c5,.slice a6 n6 c6,.slice a7 n7 c7]] w (UpP 3 kI mb L X (chF C n q E n5) (bgF C n E n5) w):=by
 have HDP:Hid (∀ k,k<n->hasCol C (C k).s k=false):=hdp;have HQ:Hid (colI C col n=some q):=hq;have HCK:Hid ((ck C n E n5).2=0):=hck;have hqn:=(colI_lt hq).1;obtain⟨he1,he2,he3⟩:=okExp_out hokE;have hml:=hM.lt;have hn0:=hN.n0;have hn1:=hN.n1;have hXl:X.length<=dr:=by rw [←hX];exact ftS_len
 have HXG:Hid (∀ x∈X,x.1=n/\goodR n C x.2):=by
  show ∀ x∈X,x.1=n/\goodR n C x.2
  rw [←hX];exact ftS_mem (fun j hj=>⟨hN.len j hj,hg j hj⟩)
 have hbU:Below w.heap.size w (((w.alloc (.cells #[.map (some mb),.func (.func 119) #[] #[]] 210)).alloc (.cells #[.slice ac n cc,.map (some pb)] 79)).alloc (.cells #[.int .i64 k0,.string tb,.slice a2 n2 c2,.slice a3 n3 c3,.string col,.slice a5 n5 c5,.slice a6 n6 c6,.slice a7 n7 c7] 45)):=below3 _ _ _ _;have hs1:(w.alloc (.cells #[.map (some mb),.func (.func 119) #[] #[]] 210)).heap.size=w.heap.size+1:=World.size_alloc _ _;have hs2:((w.alloc (.cells #[.map (some mb),.func (.func 119) #[] #[]] 210)).alloc (.cells #[.slice ac n cc,.map (some pb)] 79)).heap.size=w.heap.size+1+1:=by rw [World.size_alloc,hs1]
 have hs3:(((w.alloc (.cells #[.map (some mb),.func (.func 119) #[] #[]] 210)).alloc (.cells #[.slice ac n cc,.map (some pb)] 79)).alloc (.cells #[.int .i64 k0,.string tb,.slice a2 n2 c2,.slice a3 n3 c3,.string col,.slice a5 n5 c5,.slice a6 n6 c6,.slice a7 n7 c7] 45)).heap.size=w.heap.size+1+1+1:=by rw [World.size_alloc,hs2]
 have hq0:(((w.alloc (.cells #[.map (some mb),.func (.func 119) #[] #[]] 210)).alloc (.cells #[.slice ac n cc,.map (some pb)] 79)).alloc (.cells #[.int .i64 k0,.string tb,.slice a2 n2 c2,.slice a3 n3 c3,.string col,.slice a5 n5 c5,.slice a6 n6 c6,.slice a7 n7 c7] 45)).heap[w.heap.size]?=some (.cells #[.map (some mb),.func (.func 119) #[] #[]] 210 (0,0)):=rowL (rowL (heap_alloc_new w _) (bal _ _)) (bal _ _);have hq1:(((w.alloc (.cells #[.map (some mb),.func (.func 119) #[] #[]] 210)).alloc (.cells #[.slice ac n cc,.map (some pb)] 79)).alloc (.cells #[.int .i64 k0,.string tb,.slice a2 n2 c2,.slice a3 n3 c3,.string col,.slice a5 n5 c5,.slice a6 n6 c6,.slice a7 n7 c7] 45)).heap[w.heap.size+1]?=some (.cells #[.slice ac n cc,.map (some pb)] 79 (0,0)):=by
  have z:=rowL (heap_alloc_new (w.alloc (.cells #[.map (some mb),.func (.func 119) #[] #[]] 210)) (.cells #[.slice ac n cc,.map (some pb)] 79)) (bal _ (.cells #[.int .i64 k0,.string tb,.slice a2 n2 c2,.slice a3 n3 c3,.string col,.slice a5 n5 c5,.slice a6 n6 c6,.slice a7 n7 c7] 45));rw [hs1] at z;exact z
 have hq2:(((w.alloc (.cells #[.map (some mb),.func (.func 119) #[] #[]] 210)).alloc (.cells #[.slice ac n cc,.map (some pb)] 79)).alloc (.cells #[.int .i64 k0,.string tb,.slice a2 n2 c2,.slice a3 n3 c3,.string col,.slice a5 n5 c5,.slice a6 n6 c6,.slice a7 n7 c7] 45)).heap[w.heap.size+1+1]?=some (.cells #[.int .i64 k0,.string tb,.slice a2 n2 c2,.slice a3 n3 c3,.string col,.slice a5 n5 c5,.slice a6 n6 c6,.slice a7 n7 c7] 45 (0,0)):=by
  have z:=heap_alloc_new ((w.alloc (.cells #[.map (some mb),.func (.func 119) #[] #[]] 210)).alloc (.cells #[.slice ac n cc,.map (some pb)] 79)) (.cells #[.int .i64 k0,.string tb,.slice a2 n2 c2,.slice a3 n3 c3,.string col,.slice a5 n5 c5,.slice a6 n6 c6,.slice a7 n7 c7] 45);rw [hs2] at z;exact z
 obtain⟨p1a,p1b⟩:=box2 hq1;obtain⟨-,-,-,-,-,-,p2g,-⟩:=box8 hq2;have HFT:=iFitting ac n cc C pb ar dr cr dm dR a6 n6 c6 W w (((w.alloc (.cells #[.map (some mb),.func (.func 119) #[] #[]] 210)).alloc (.cells #[.slice ac n cc,.map (some pb)] 79)).alloc (.cells #[.int .i64 k0,.string tb,.slice a2 n2 c2,.slice a3 n3 c3,.string col,.slice a5 n5 c5,.slice a6 n6 c6,.slice a7 n7 c7] 45)) hbU (hP.later hbU) hdp hR (hW.later hbU) hok hcw hN hg;rw [hX] at HFT;have hmk:∀ w:World,(Instr.makeSlice 33 (.int .i64 (X.length:Int)) (.int .i64 (X.length:Int))).run Tryz.prog w=.ok (.slice (some ⟨w.heap.size,0,none⟩) X.length X.length) (w.alloc (.cells (madeCells #[Value.slice none 0 0] X.length) 41)):=fun w=>by
  have z:=make_any (t:=33) Tryz.underlying33 Tryz.infoRow X.length (by omega) (by omega) w;rw [Nat.mul_one] at z;exact z
 clear hdp hok hcw hokE hck hq hN hg hX;go_enter Tryz.func173,Tryz.ntmps173
 go_wp2_with (go_at_call 89;refine HFT.mono ?_;rintro e w4 ⟨af,cf,rfl,hOD,hb4⟩)
 clear hmk HFT;have hs4:=hb4.size;rw [hs3] at hs4;have rr0:=rowL hq0 hb4;have r1:=rowL hq1 hb4;have r2:=rowL hq2 hb4;have hbw4:=bstep hbU hb4;have hP4:PlAt w4 pb n C:=hP.later hbw4;have hE4:=hE.later hbw4;have hM4:=hM.later hbw4;have hOL4:=hOD.ol;have hqM:=heap_alloc_new w4 (.cells (madeCells #[Value.slice none 0 0] X.length) 41);have hbM:=bal w4 (.cells (madeCells #[Value.slice none 0 0] X.length) 41);clear hq0 hq1 hq2 hs1 hs2 hs3 hbU p1a p1b p2g hb4 hOD hE hR hW hP;go_loopw [11,12,23] (fun _ _ i wr=>∃ (k:Nat) (Cs:List Ro) (cur:Array Value),k<=X.length/\i=.int .i64 k/\Cs.map Ro.x=(X.take k).map (chF C n q E n5)/\Cs.length=k/\(∀ r∈Cs,RC w4 wr r)/\(Cs.map Ro.b).Nodup/\wr.heap[w4.heap.size]?=some (.cells cur 41 (0,0))/\cur.size=X.length/\(∀ j,j<k->cur[j]?=some (Cs.getD j o0).v)/\(X.take k).any (bgF C n E n5)=false/\Below w4.heap.size w4 wr/\w4.heap.size<wr.heap.size) (fun _ _ i _=>X.length - (intOf i).toNat)
 case atStart=>exact⟨0,[],_,by omega,rfl,by simp,rfl,by simp,by simp,hqM,made_size _ _,fun j hj=>by omega,by simp,hbM,by rw [World.size_alloc];omega⟩
 case round=>
  obtain⟨k,Cs,cur,hk,rfl,hCx,hCl,hRC,hnd,hBC,hcz,hcj,hbig,hbr,hsr⟩:=hrel;have HCX:Hid (Cs.map Ro.x=(X.take k).map (chF C n q E n5)):=hCx;have HBG:Hid ((X.take k).any (bgF C n E n5)=false):=hbig;have HND:Hid ((Cs.map Ro.b).Nodup):=hnd;have HCJ:Hid (∀ j,j<k->cur[j]?=some (Cs.getD j o0).v):=hcj;clear hCx hbig hnd hcj hqM hbM;by_cases hlt:k<X.length
  rotate_left
  ·
   obtain rfl:k=X.length:=by omega
   have hg0:w.grownBy wr (some mb):=belGr (bstep hbw4 hbr) _;have hMr:=hM4.later hbr;have hRS:RS wr (some ⟨w4.heap.size,0,none⟩) Cs:=fun j hj=>⟨_,0,rfl,by rw [Nat.zero_add];exact(cell_of_row _ _ j _ _ _ hBC).trans (HCJ.out j (by omega))⟩;have hRL:RL wr Cs:=fun r hr=>⟨(hRC r hr).1.2,by
    have h1:r.x∈Cs.map Ro.x:=List.mem_map_of_mem hr;rw [HCX.out] at h1;obtain⟨x,hx,e⟩:=List.mem_map.1 h1;rw [←e,show (chF C n q E n5 x).1=x.1 from rfl,(HXG.out x (List.mem_of_mem_take hx)).1]
    exact hn0⟩
   have hKC:∀ r∈Cs,keyOf Tryz.prog 3 (.int .i64 (r.x.2 0).m)=some (kI r.x):=fun r hr=>by
    have h1:r.x∈Cs.map Ro.x:=List.mem_map_of_mem hr;rw [HCX.out] at h1;obtain⟨x,hx,e⟩:=List.mem_map.1 h1;rw [←e];exact hK2 x (List.mem_of_mem_take hx)
   have hdl:(delL kI L X).length<=1000:=Nat.le_trans (delL_len _ _ _) hLn;have HRM:=iRemoveI mb af cf L X wr hMr (hOL4.later hbr) (fun x hx=>by rw [(HXG.out x hx).1];exact hn0) (by omega) hK1;obtain⟨m0,m1⟩:=box2 (rowL rr0 hbr);have HR0:Hid (wr.heap[w.heap.size]?=some (.cells #[.map (some mb),.func (.func 119) #[] #[]] 210 (0,0))):=rowL rr0 hbr;have hend:∀ (w6 w7:World) (bb:Bool),(addL kI (delL kI L X) Cs).1=bb->KM 3 kI w6 mb (delL kI L X)->wr.grownBy w6 (some mb)->KM 3 kI w7 mb (addL kI (delL kI L X) Cs).2->w6.grownBy w7 (some mb)->UpP 3 kI mb L X (chF C n q E n5) (bgF C n E n5) w (.returned (.int .i64 (if bb=true then 0 else 5))) w7:=fun w6 w7 bb hbb hM6 hg6 hM7 hg7=>by
    refine⟨(hg0.trans hg6).trans hg7,Or.inr ⟨by have z:=HBG.out;rwa [List.take_length] at z,Cs,by have z:=HCX.out;rwa [List.take_length] at z,fun r hr=>⟨((hRC r hr).1.all (BlkC.km hMr hg6)).all (BlkC.km hM6 hg7),?_⟩,HND.out,by rw [hbb],hM7⟩⟩;have:=(hRC r hr).2.1;omega
   have HEND:Hid (∀ (w6 w7:World) (bb:Bool),(addL kI (delL kI L X) Cs).1=bb->KM 3 kI w6 mb (delL kI L X)->wr.grownBy w6 (some mb)->KM 3 kI w7 mb (addL kI (delL kI L X) Cs).2->w6.grownBy w7 (some mb)->UpP 3 kI mb L X (chF C n q E n5) (bgF C n E n5) w (.returned (.int .i64 (if bb=true then 0 else 5))) w7):=hend
   clear hend;rcases hA:(addL kI (delL kI L X) Cs).1
   ·
    go_wp2_with (first | (go_at_call 174;refine HRM.mono ?_;rintro e w6 ⟨rfl,hM6,hg6⟩;have HR6:=rowK HR0.out hg6 (by omega);obtain⟨m2,m3⟩:=box2 HR6) | (go_at_call 171;have HAD:=iAddI mb (some ⟨w4.heap.size,0,none⟩) X.length (delL kI L X) Cs w6 hM6 (hRS.all (AllC.km hMr hg6)) (hRL.all (AllC.km hMr hg6)) (by omega) hKC;rw [hA,hCl] at HAD;refine HAD.mono ?_;rintro e w7 ⟨rfl,hM7,hg7⟩;clear HAD) | go_in)
    go_ret
    exact HEND.out _ _ _ hA hM6 hg6 hM7 hg7
   ·
    go_wp2_with (first | (go_at_call 174;refine HRM.mono ?_;rintro e w6 ⟨rfl,hM6,hg6⟩;have HR6:=rowK HR0.out hg6 (by omega);obtain⟨m2,m3⟩:=box2 HR6) | (go_at_call 171;have HAD:=iAddI mb (some ⟨w4.heap.size,0,none⟩) X.length (delL kI L X) Cs w6 hM6 (hRS.all (AllC.km hMr hg6)) (hRL.all (AllC.km hMr hg6)) (by omega) hKC;rw [hA,hCl] at HAD;refine HAD.mono ?_;rintro e w7 ⟨rfl,hM7,hg7⟩;clear HAD) | go_in)
    go_ret
    exact HEND.out _ _ _ hA hM6 hg6 hM7 hg7
  ·
   obtain⟨b,off,ai,ci,rfl,c0,hI,hsz⟩:=hOL4 k hlt;dsimp only at c0 hI hsz
   obtain⟨hx1,hxg⟩:=HXG.out _ (getD_mem (y:=r0) hlt);have HT:Hid (X.take (k+1)=X.take k ++ [X.getD k r0]):=take_one hlt;have HXM:Hid (X.getD k r0∈X):=getD_mem hlt;generalize X.getD k r0=x at c0 hI hsz hx1 hxg HT HXM;rw [hx1] at c0 hI;have hI4:IL w4 ai n x.2:=hI;have HGX:Hid (goodR n C x.2):=hxg;have hxs:∀ j,j<n->(x.2 j).s.size<=1048576:=fun j hj=>by have:=(hxg j hj).1;omega
   have HX2:Hid (∀ j,j<n->(x.2 j).s.size<=200):=fun j hj=>(hxg j hj).1;obtain⟨y,hy⟩:∃ y,vlR C n x.2 E n5=y:=⟨_,rfl⟩;have hys:y.s.size<=1048576:=by rw [←hy];exact vlR_size HX2.out he3 he1 he2
   have HY:Hid (vlR C n x.2 E n5=y):=hy;have c0r:=keepB hbr c0;have hq0:(0:Int)<=(q:Int):=by omega
   have hqi:(q:Int)<(n:Int):=by omega
   have hki:(k:Int)<(X.length:Int):=by omega
   have hCb:∀ r∈Cs,r.b<wr.heap.size:=fun r hr=>(hRC r hr).2.2;obtain⟨old,hold⟩:∃ old,cur[k]?=some old:=⟨cur[k]'(by omega),by simp [hcz,hlt]⟩;have d0_:=(cell_of_row _ _ k _ _ _ hBC).trans hold;clear hy hxg hI hx1 hsz;go_wp2_with (go_at_call 109;refine(iCloneV ai n ci x.2 wr (hI4.later hbr) hn0 hn1).mono ?_;rintro e v1 ⟨g,cap,rfl,hOg,hb1⟩;have d1_:=keepB hb1 d0_;have f1_:=frozen_of_row _ _ k _ _ (rowL hBC hb1))
   have hgl:=hOg.lt g rfl;have hBC2:=heap_setCell_same v1 _ k _ _ (.slice (some ⟨g,0,none⟩) n cap) (rowL hBC hb1);have hb2:Below w4.heap.size w4 (v1.setCell ⟨w4.heap.size,k,none⟩ (.slice (some ⟨g,0,none⟩) n cap)):=bset (bstep hbr hb1) (Nat.le_refl _);replace hOg:=own_grown hOg (gset v1 w4.heap.size k (.slice (some ⟨g,0,none⟩) n cap)) (by intro e;have:=Option.some.inj e;omega);replace hRC:∀ r∈Cs,RC w4 (v1.setCell ⟨w4.heap.size,k,none⟩ (.slice (some ⟨g,0,none⟩) n cap)) r:=fun r hr=>((hRC r hr).imp3 hb1).set (by have:=(hRC r hr).2.1;omega);have hc2k:(cur.setIfInBounds k (.slice (some ⟨g,0,none⟩) n cap))[k]?=some (.slice (some ⟨g,0,none⟩) n cap):=by simp [hcz,hlt]
   have hc2z:(cur.setIfInBounds k (.slice (some ⟨g,0,none⟩) n cap)).size=X.length:=by simp [hcz]
   have HCJ2:Hid (∀ j,j<k->(cur.setIfInBounds k (.slice (some ⟨g,0,none⟩) n cap))[j]?=some (Cs.getD j o0).v):=fun j hj=>by rw [Array.getElem?_setIfInBounds_ne (by omega)];exact HCJ.out j hj
   generalize cur.setIfInBounds k (.slice (some ⟨g,0,none⟩) n cap)=cur2 at hBC2 hc2k hc2z HCJ2;have hs2v:(v1.setCell ⟨w4.heap.size,k,none⟩ (.slice (some ⟨g,0,none⟩) n cap)).heap.size=v1.heap.size:=World.size_setCell _ _ _;generalize v1.setCell ⟨w4.heap.size,k,none⟩ (.slice (some ⟨g,0,none⟩) n cap)=v2 at hBC2 hb2 hOg hRC hs2v ⊢;clear d0_ d1_ f1_ hold old hBC hcz HCJ c0 c0r;refine wp_region_held_drew (S:=fun x_=>Below w4.heap.size w4 x_/\x_.heap[w4.heap.size]?=some (.cells cur2 41 (0,0))) (by kernel_rfl) (⟨bstep hb2 (bdrew _),hBC2⟩) (fun jH=>?_);replace hOg:v2.drew.ownsRow _ _ _ _ _ _:=hOg;replace hRC:∀ r∈Cs,RC w4 v2.drew r:=hRC;generalize v2.drew=v at jH hOg hRC ⊢;refine tk 0 qXh0 (fun x jS=>by go_simp<;>rfl) jH ?_
   try simp only [zS]
   refine tk 1 qXh1 (fun x jS=>by go_simp<;>rfl) jH ?_
   try simp only [zS]
   refine tk 2 qXh2 (fun x jS=>by go_simp<;>rfl) jH ?_
   try simp only [zS]
   refine tk 3 qXh3 (fun x jS=>by obtain⟨s1,s2⟩:=jS;obtain⟨k1a,k1b⟩:=box2 (rowL r1 s1);obtain⟨-,-,-,-,k2e,k2f,-,-⟩:=box8 (rowL r2 s1);have kc:=(cell_of_row _ _ k _ _ _ s2).trans hc2k;have hlk:=plRun (hP4.later s1) HDP.out HQ.out hcs;go_simp<;>rfl) jH ?_
   try simp only [zS]
   refine tk 4 qXh4 (fun x jS=>by go_simp<;>rfl) jH ?_
   try simp only [zS]
   refine tk 5 qXh5 (fun x jS=>by obtain⟨s1,s2⟩:=jS;obtain⟨k1a,k1b⟩:=box2 (rowL r1 s1);obtain⟨-,-,-,-,k2e,k2f,-,-⟩:=box8 (rowL r2 s1);have kc:=(cell_of_row _ _ k _ _ _ s2).trans hc2k;have hlk:=plRun (hP4.later s1) HDP.out HQ.out hcs;go_simp<;>rfl) jH ?_
   try simp only [zS]
   refine tk 6 qXh6 (fun x jS=>by go_simp<;>rfl) jH ?_
   try simp only [zS]
   refine tk 7 qXh7 (fun x jS=>by obtain⟨s1,s2⟩:=jS;obtain⟨k1a,k1b⟩:=box2 (rowL r1 s1);obtain⟨-,-,-,-,k2e,k2f,-,-⟩:=box8 (rowL r2 s1);have kc:=(cell_of_row _ _ k _ _ _ s2).trans hc2k;have hlk:=plRun (hP4.later s1) HDP.out HQ.out hcs;go_simp<;>rfl) jH ?_
   try simp only [zS]
   refine tk 8 qXh8 (fun x jS=>by obtain⟨s1,s2⟩:=jS;obtain⟨k1a,k1b⟩:=box2 (rowL r1 s1);obtain⟨-,-,-,-,k2e,k2f,-,-⟩:=box8 (rowL r2 s1);have kc:=(cell_of_row _ _ k _ _ _ s2).trans hc2k;have hlk:=plRun (hP4.later s1) HDP.out HQ.out hcs;go_simp<;>rfl) jH ?_
   try simp only [zS]
   refine tk 9 qXh9 (fun x jS=>by obtain⟨s1,s2⟩:=jS;obtain⟨k1a,k1b⟩:=box2 (rowL r1 s1);obtain⟨-,-,-,-,k2e,k2f,-,-⟩:=box8 (rowL r2 s1);have kc:=(cell_of_row _ _ k _ _ _ s2).trans hc2k;have hlk:=plRun (hP4.later s1) HDP.out HQ.out hcs;go_simp<;>rfl) jH ?_
   try simp only [zS]
   refine tk 10 qXh10 (fun x jS=>by go_simp<;>rfl) jH ?_
   try simp only [zS]
   refine tk 11 qXh11 (fun x jS=>by obtain⟨s1,s2⟩:=jS;obtain⟨k1a,k1b⟩:=box2 (rowL r1 s1);obtain⟨-,-,-,-,k2e,k2f,-,-⟩:=box8 (rowL r2 s1);have kc:=(cell_of_row _ _ k _ _ _ s2).trans hc2k;have hlk:=plRun (hP4.later s1) HDP.out HQ.out hcs;go_simp<;>rfl) jH ?_
   try simp only [zS]
   refine tk 12 qXh12 (fun x jS=>by go_simp<;>rfl) jH ?_
   try simp only [zS]
   refine rd 13 qXh13 (fun K hK=>?_);have HV:=iValue5 ac n cc C pb ai ci x.2 a5 n5 c5 E v (hP4.later jH.1) HDP.out (hI4.later jH.1) (hE4.later jH.1) he1 he3 HCK.out HGX.out;rw [HY.out] at HV;go_simp;refine HV.mono ?_;rintro e v3 ⟨rfl,hb3⟩;clear HV;replace hOg:=own_below hOg hb3;replace hRC:=fun r hr=>(hRC r hr).imp3 hb3;refine hK.out _ _ ⟨bstep jH.1 hb3,rowL jH.2 hb3⟩ (fun jH=>?_);clear hK K;try simp only [zS]
   refine tk 14 qXh14 (fun x jS=>by go_simp<;>rfl) jH ?_
   try simp only [zS]
   refine rd 15 qXh15 (fun K hK=>?_);obtain⟨y0_,y1_,y2_⟩:=il_cells (own_il hOg hxs) hqn;obtain⟨fz0,fz1,fz2⟩:=own_froz hOg (q * 3);have hILY:IL (((v3.setCell ⟨g,q * 3,none⟩ (.int .i64 y.o)).setCell ⟨g,q * 3+1,none⟩ (.int .i64 y.m)).setCell ⟨g,q * 3+2,none⟩ (.string y.s)) (some ⟨g,0,none⟩) n (upd x.2 q y):=own_upd hOg hxs hys hqn;have hbkY:=own_blkY hOg q y;go_simp;refine hK.out _ _ ⟨bset (bset (bset jH.1 (by omega)) (by omega)) (by omega),rowO (rowO (rowO jH.2 (by omega)) (by omega)) (by omega)⟩ (fun jH=>?_);clear hK K;try simp only [Act.put]
   refine wpAnyH_done (by kernel_rfl) ?_ _;have hRCY:∀ r∈Cs,RC w4 (((v3.setCell ⟨g,q * 3,none⟩ (.int .i64 y.o)).setCell ⟨g,q * 3+1,none⟩ (.int .i64 y.m)).setCell ⟨g,q * 3+2,none⟩ (.string y.s)) r:=fun r hr=>(((hRC r hr).set (by have:=hCb r hr;omega)).set (by have:=hCb r hr;omega)).set (by have:=hCb r hr;omega);have hsY:(((v3.setCell ⟨g,q * 3,none⟩ (.int .i64 y.o)).setCell ⟨g,q * 3+1,none⟩ (.int .i64 y.m)).setCell ⟨g,q * 3+2,none⟩ (.string y.s)).heap.size=v3.heap.size:=by rw [World.size_setCell,World.size_setCell,World.size_setCell]
   have hglY:=hOg.lt g rfl;generalize (((v3.setCell ⟨g,q * 3,none⟩ (.int .i64 y.o)).setCell ⟨g,q * 3+1,none⟩ (.int .i64 y.m)).setCell ⟨g,q * 3+2,none⟩ (.string y.s))=v5 at hILY hbkY jH hRCY hsY ⊢;obtain⟨hb5,hBC5⟩:=jH;have kc5:=(cell_of_row _ _ k _ _ _ hBC5).trans hc2k;have HL:=iLongest (some ⟨g,0,none⟩) n cap (upd x.2 q y) v5 hILY hn1;have hlon:=lon_upd (q:=q) (y:=y) HX2.out hqn;have hRoY:RoAt v5 ⟨g,cap,(n,upd x.2 q y)⟩:=⟨hbkY,hILY⟩;have HCF:Hid (chF C n q E n5 x=(n,upd x.2 q y)):=by show _=_;unfold chF;rw [HY.out,HXG.out x HXM.out |>.1]
   have HBF:Hid (bgF C n E n5 x=decide (200<y.s.size)):=by show _=_;unfold bgF;rw [HY.out]
   by_cases hbg:200<y.s.size
   ·
    have hl2:=hlon.2 hbg;have hl:(200:Int)<(lonI (upd x.2 q y) n:Int):=by omega
    generalize lonI (upd x.2 q y) n=ln at HL hl;clear hlon hl2;go_wp2_with (go_at_call 91;refine HL.mono ?_;rintro e v6 ⟨rfl,hb6⟩)
    go_ret
    refine⟨belGr (bstep hbw4 (bstep hb5 hb6)) _,Or.inl ⟨?_,rfl,hM4.later (bstep hb5 hb6)⟩⟩;exact List.any_eq_true.2 ⟨x,HXM.out,by rw [HBF.out];simpa using hbg⟩
   ·
    have hl2:¬200<lonI (upd x.2 q y) n:=fun z=>hbg (hlon.1 z);have hl:¬(200:Int)<(lonI (upd x.2 q y) n:Int):=by omega
    generalize lonI (upd x.2 q y) n=ln at HL hl;clear hlon hl2;go_wp2_with (go_at_call 91;refine HL.mono ?_;rintro e v6 ⟨rfl,hb6⟩)
    go_roundw
    case rel=>exact⟨k+1,Cs ++ [⟨g,cap,(n,upd x.2 q y)⟩],cur2,by omega,by go_num,by rw [HT.out,List.map_append,List.map_append,HCX.out,List.map_singleton,List.map_singleton,HCF.out],by simp [hCl],fun r hr=>by
     rcases List.mem_append.1 hr with h | h
     · exact(hRCY r h).imp3 hb6
     · rw [List.mem_singleton] at h;subst h;exact⟨hRoY.all (BlkC.below hb6),by show w4.heap.size<g;omega,by show g<_;have:=hb6.size;omega⟩,by
     rw [List.map_append,List.nodup_append];refine⟨HND.out,by simp,fun a ha b hb=>?_⟩;obtain⟨r,hr,rfl⟩:=List.mem_map.1 ha;have h1:=hCb r hr;have h2:b=g:=by simpa using hb
     omega,rowL hBC5 hb6,hc2z,fun j hj=>by
     by_cases e:j=k
     · subst e;rw [hc2k,getD_last hCl];rfl
     · rw [HCJ2.out j (by omega),getD_init (by omega)],by rw [HT.out,List.any_append,HBG.out];simp [HBF.out,hbg],bstep hb5 hb6,by have:=hb6.size;omega⟩
    case measure=>simp [intOf];omega
theorem iUpdS(mb:Nat)(L:List Ro)(ac:Option Addr)(n cc:Nat)(C:Nat->Clm)(pb:Nat)(ar:Option Addr)(dr cr:Nat)(dm:Nat->Nat)(dR:Nat->Nat->Itm)(k0:Int)(tb:ByteArray)(a2:Option Addr)(n2 c2:Nat)(a3:Option Addr)(n3 c3:Nat)(col:ByteArray)(a5:Option Addr)(n5 c5:Nat)(a6:Option Addr)(n6 c6:Nat)(a7:Option Addr)(n7 c7:Nat)(E W:Nat->Itm)(q:Nat)(X:List Rw)(w:World)
 (hM:KM 9 kS w mb L) (hP:PlAt w pb n C) (hdp:∀ k,k<n->hasCol C (C k).s k=false) (hR:OL w ar dr dm dR) (hE:IL w a5 n5 E) (hW:IL w a6 n6 W) (hok:okWhere W n6=true) (hcw:cwR C n W n6=0) (hokE:okExp E n5=true) (hck:(ck C n E n5).2=0) (hq:colI C col n=some q) (hcs:col.size<=1048576) (hN:Nice n dr dm dR) (hg:∀ k,k<dr->goodR n C (dR k)) (hX:ftS C n dm dR W n6 dr=X) (hLn:L.length<=1000) (hdr:dr<=1000)
 (hK1:∀ x∈X,keyOf Tryz.prog 9 (.string (x.2 0).s)=some (kS x)) (hK2:∀ x∈X,keyOf Tryz.prog 9 (.string ((chF C n q E n5 x).2 0).s)=some (kS (chF C n q E n5 x))) :
 Calls Tryz.prog 178 #[.agg #[.map (some mb),.func (.func 121) #[] #[]],.agg #[.slice ac n cc,.map (some pb)],.slice ar dr cr,.agg #[.int .i64 k0,.string tb,.slice a2 n2 c2,.slice a3 n3 c3,.string col,.slice a5 n5 c5,.slice a6 n6 c6,.slice a7 n7 c7]] w (UpP 9 kS mb L X (chF C n q E n5) (bgF C n E n5) w):=by
 have HDP:Hid (∀ k,k<n->hasCol C (C k).s k=false):=hdp;have HQ:Hid (colI C col n=some q):=hq;have HCK:Hid ((ck C n E n5).2=0):=hck;have hqn:=(colI_lt hq).1;obtain⟨he1,he2,he3⟩:=okExp_out hokE;have hml:=hM.lt;have hn0:=hN.n0;have hn1:=hN.n1;have hXl:X.length<=dr:=by rw [←hX];exact ftS_len
 have HXG:Hid (∀ x∈X,x.1=n/\goodR n C x.2):=by
  show ∀ x∈X,x.1=n/\goodR n C x.2
  rw [←hX];exact ftS_mem (fun j hj=>⟨hN.len j hj,hg j hj⟩)
 have hbU:Below w.heap.size w (((w.alloc (.cells #[.map (some mb),.func (.func 121) #[] #[]] 217)).alloc (.cells #[.slice ac n cc,.map (some pb)] 79)).alloc (.cells #[.int .i64 k0,.string tb,.slice a2 n2 c2,.slice a3 n3 c3,.string col,.slice a5 n5 c5,.slice a6 n6 c6,.slice a7 n7 c7] 45)):=below3 _ _ _ _;have hs1:(w.alloc (.cells #[.map (some mb),.func (.func 121) #[] #[]] 217)).heap.size=w.heap.size+1:=World.size_alloc _ _;have hs2:((w.alloc (.cells #[.map (some mb),.func (.func 121) #[] #[]] 217)).alloc (.cells #[.slice ac n cc,.map (some pb)] 79)).heap.size=w.heap.size+1+1:=by rw [World.size_alloc,hs1]
 have hs3:(((w.alloc (.cells #[.map (some mb),.func (.func 121) #[] #[]] 217)).alloc (.cells #[.slice ac n cc,.map (some pb)] 79)).alloc (.cells #[.int .i64 k0,.string tb,.slice a2 n2 c2,.slice a3 n3 c3,.string col,.slice a5 n5 c5,.slice a6 n6 c6,.slice a7 n7 c7] 45)).heap.size=w.heap.size+1+1+1:=by rw [World.size_alloc,hs2]
 have hq0:(((w.alloc (.cells #[.map (some mb),.func (.func 121) #[] #[]] 217)).alloc (.cells #[.slice ac n cc,.map (some pb)] 79)).alloc (.cells #[.int .i64 k0,.string tb,.slice a2 n2 c2,.slice a3 n3 c3,.string col,.slice a5 n5 c5,.slice a6 n6 c6,.slice a7 n7 c7] 45)).heap[w.heap.size]?=some (.cells #[.map (some mb),.func (.func 121) #[] #[]] 217 (0,0)):=rowL (rowL (heap_alloc_new w _) (bal _ _)) (bal _ _);have hq1:(((w.alloc (.cells #[.map (some mb),.func (.func 121) #[] #[]] 217)).alloc (.cells #[.slice ac n cc,.map (some pb)] 79)).alloc (.cells #[.int .i64 k0,.string tb,.slice a2 n2 c2,.slice a3 n3 c3,.string col,.slice a5 n5 c5,.slice a6 n6 c6,.slice a7 n7 c7] 45)).heap[w.heap.size+1]?=some (.cells #[.slice ac n cc,.map (some pb)] 79 (0,0)):=by
  have z:=rowL (heap_alloc_new (w.alloc (.cells #[.map (some mb),.func (.func 121) #[] #[]] 217)) (.cells #[.slice ac n cc,.map (some pb)] 79)) (bal _ (.cells #[.int .i64 k0,.string tb,.slice a2 n2 c2,.slice a3 n3 c3,.string col,.slice a5 n5 c5,.slice a6 n6 c6,.slice a7 n7 c7] 45));rw [hs1] at z;exact z
 have hq2:(((w.alloc (.cells #[.map (some mb),.func (.func 121) #[] #[]] 217)).alloc (.cells #[.slice ac n cc,.map (some pb)] 79)).alloc (.cells #[.int .i64 k0,.string tb,.slice a2 n2 c2,.slice a3 n3 c3,.string col,.slice a5 n5 c5,.slice a6 n6 c6,.slice a7 n7 c7] 45)).heap[w.heap.size+1+1]?=some (.cells #[.int .i64 k0,.string tb,.slice a2 n2 c2,.slice a3 n3 c3,.string col,.slice a5 n5 c5,.slice a6 n6 c6,.slice a7 n7 c7] 45 (0,0)):=by
  have z:=heap_alloc_new ((w.alloc (.cells #[.map (some mb),.func (.func 121) #[] #[]] 217)).alloc (.cells #[.slice ac n cc,.map (some pb)] 79)) (.cells #[.int .i64 k0,.string tb,.slice a2 n2 c2,.slice a3 n3 c3,.string col,.slice a5 n5 c5,.slice a6 n6 c6,.slice a7 n7 c7] 45);rw [hs2] at z;exact z
 obtain⟨p1a,p1b⟩:=box2 hq1;obtain⟨-,-,-,-,-,-,p2g,-⟩:=box8 hq2;have HFT:=iFitting ac n cc C pb ar dr cr dm dR a6 n6 c6 W w (((w.alloc (.cells #[.map (some mb),.func (.func 121) #[] #[]] 217)).alloc (.cells #[.slice ac n cc,.map (some pb)] 79)).alloc (.cells #[.int .i64 k0,.string tb,.slice a2 n2 c2,.slice a3 n3 c3,.string col,.slice a5 n5 c5,.slice a6 n6 c6,.slice a7 n7 c7] 45)) hbU (hP.later hbU) hdp hR (hW.later hbU) hok hcw hN hg;rw [hX] at HFT;have hmk:∀ w:World,(Instr.makeSlice 33 (.int .i64 (X.length:Int)) (.int .i64 (X.length:Int))).run Tryz.prog w=.ok (.slice (some ⟨w.heap.size,0,none⟩) X.length X.length) (w.alloc (.cells (madeCells #[Value.slice none 0 0] X.length) 41)):=fun w=>by
  have z:=make_any (t:=33) Tryz.underlying33 Tryz.infoRow X.length (by omega) (by omega) w;rw [Nat.mul_one] at z;exact z
 clear hdp hok hcw hokE hck hq hN hg hX;go_enter Tryz.func178,Tryz.ntmps178
 go_wp2_with (go_at_call 89;refine HFT.mono ?_;rintro e w4 ⟨af,cf,rfl,hOD,hb4⟩)
 clear hmk HFT;have hs4:=hb4.size;rw [hs3] at hs4;have rr0:=rowL hq0 hb4;have r1:=rowL hq1 hb4;have r2:=rowL hq2 hb4;have hbw4:=bstep hbU hb4;have hP4:PlAt w4 pb n C:=hP.later hbw4;have hE4:=hE.later hbw4;have hM4:=hM.later hbw4;have hOL4:=hOD.ol;have hqM:=heap_alloc_new w4 (.cells (madeCells #[Value.slice none 0 0] X.length) 41);have hbM:=bal w4 (.cells (madeCells #[Value.slice none 0 0] X.length) 41);clear hq0 hq1 hq2 hs1 hs2 hs3 hbU p1a p1b p2g hb4 hOD hE hR hW hP;go_loopw [11,12,23] (fun _ _ i wr=>∃ (k:Nat) (Cs:List Ro) (cur:Array Value),k<=X.length/\i=.int .i64 k/\Cs.map Ro.x=(X.take k).map (chF C n q E n5)/\Cs.length=k/\(∀ r∈Cs,RC w4 wr r)/\(Cs.map Ro.b).Nodup/\wr.heap[w4.heap.size]?=some (.cells cur 41 (0,0))/\cur.size=X.length/\(∀ j,j<k->cur[j]?=some (Cs.getD j o0).v)/\(X.take k).any (bgF C n E n5)=false/\Below w4.heap.size w4 wr/\w4.heap.size<wr.heap.size) (fun _ _ i _=>X.length - (intOf i).toNat)
 case atStart=>exact⟨0,[],_,by omega,rfl,by simp,rfl,by simp,by simp,hqM,made_size _ _,fun j hj=>by omega,by simp,hbM,by rw [World.size_alloc];omega⟩
 case round=>
  obtain⟨k,Cs,cur,hk,rfl,hCx,hCl,hRC,hnd,hBC,hcz,hcj,hbig,hbr,hsr⟩:=hrel;have HCX:Hid (Cs.map Ro.x=(X.take k).map (chF C n q E n5)):=hCx;have HBG:Hid ((X.take k).any (bgF C n E n5)=false):=hbig;have HND:Hid ((Cs.map Ro.b).Nodup):=hnd;have HCJ:Hid (∀ j,j<k->cur[j]?=some (Cs.getD j o0).v):=hcj;clear hCx hbig hnd hcj hqM hbM;by_cases hlt:k<X.length
  rotate_left
  ·
   obtain rfl:k=X.length:=by omega
   have hg0:w.grownBy wr (some mb):=belGr (bstep hbw4 hbr) _;have hMr:=hM4.later hbr;have hRS:RS wr (some ⟨w4.heap.size,0,none⟩) Cs:=fun j hj=>⟨_,0,rfl,by rw [Nat.zero_add];exact(cell_of_row _ _ j _ _ _ hBC).trans (HCJ.out j (by omega))⟩;have hRL:RL wr Cs:=fun r hr=>⟨(hRC r hr).1.2,by
    have h1:r.x∈Cs.map Ro.x:=List.mem_map_of_mem hr;rw [HCX.out] at h1;obtain⟨x,hx,e⟩:=List.mem_map.1 h1;rw [←e,show (chF C n q E n5 x).1=x.1 from rfl,(HXG.out x (List.mem_of_mem_take hx)).1]
    exact hn0⟩
   have hKC:∀ r∈Cs,keyOf Tryz.prog 9 (.string (r.x.2 0).s)=some (kS r.x):=fun r hr=>by
    have h1:r.x∈Cs.map Ro.x:=List.mem_map_of_mem hr;rw [HCX.out] at h1;obtain⟨x,hx,e⟩:=List.mem_map.1 h1;rw [←e];exact hK2 x (List.mem_of_mem_take hx)
   have hdl:(delL kS L X).length<=1000:=Nat.le_trans (delL_len _ _ _) hLn;have HRM:=iRemoveS mb af cf L X wr hMr (hOL4.later hbr) (fun x hx=>by rw [(HXG.out x hx).1];exact hn0) (by omega) hK1;obtain⟨m0,m1⟩:=box2 (rowL rr0 hbr);have HR0:Hid (wr.heap[w.heap.size]?=some (.cells #[.map (some mb),.func (.func 121) #[] #[]] 217 (0,0))):=rowL rr0 hbr;have hend:∀ (w6 w7:World) (bb:Bool),(addL kS (delL kS L X) Cs).1=bb->KM 9 kS w6 mb (delL kS L X)->wr.grownBy w6 (some mb)->KM 9 kS w7 mb (addL kS (delL kS L X) Cs).2->w6.grownBy w7 (some mb)->UpP 9 kS mb L X (chF C n q E n5) (bgF C n E n5) w (.returned (.int .i64 (if bb=true then 0 else 5))) w7:=fun w6 w7 bb hbb hM6 hg6 hM7 hg7=>by
    refine⟨(hg0.trans hg6).trans hg7,Or.inr ⟨by have z:=HBG.out;rwa [List.take_length] at z,Cs,by have z:=HCX.out;rwa [List.take_length] at z,fun r hr=>⟨((hRC r hr).1.all (BlkC.km hMr hg6)).all (BlkC.km hM6 hg7),?_⟩,HND.out,by rw [hbb],hM7⟩⟩;have:=(hRC r hr).2.1;omega
   have HEND:Hid (∀ (w6 w7:World) (bb:Bool),(addL kS (delL kS L X) Cs).1=bb->KM 9 kS w6 mb (delL kS L X)->wr.grownBy w6 (some mb)->KM 9 kS w7 mb (addL kS (delL kS L X) Cs).2->w6.grownBy w7 (some mb)->UpP 9 kS mb L X (chF C n q E n5) (bgF C n E n5) w (.returned (.int .i64 (if bb=true then 0 else 5))) w7):=hend
   clear hend;rcases hA:(addL kS (delL kS L X) Cs).1
   ·
    go_wp2_with (first | (go_at_call 179;refine HRM.mono ?_;rintro e w6 ⟨rfl,hM6,hg6⟩;have HR6:=rowK HR0.out hg6 (by omega);obtain⟨m2,m3⟩:=box2 HR6) | (go_at_call 176;have HAD:=iAddS mb (some ⟨w4.heap.size,0,none⟩) X.length (delL kS L X) Cs w6 hM6 (hRS.all (AllC.km hMr hg6)) (hRL.all (AllC.km hMr hg6)) (by omega) hKC;rw [hA,hCl] at HAD;refine HAD.mono ?_;rintro e w7 ⟨rfl,hM7,hg7⟩;clear HAD) | go_in)
    go_ret
    exact HEND.out _ _ _ hA hM6 hg6 hM7 hg7
   ·
    go_wp2_with (first | (go_at_call 179;refine HRM.mono ?_;rintro e w6 ⟨rfl,hM6,hg6⟩;have HR6:=rowK HR0.out hg6 (by omega);obtain⟨m2,m3⟩:=box2 HR6) | (go_at_call 176;have HAD:=iAddS mb (some ⟨w4.heap.size,0,none⟩) X.length (delL kS L X) Cs w6 hM6 (hRS.all (AllC.km hMr hg6)) (hRL.all (AllC.km hMr hg6)) (by omega) hKC;rw [hA,hCl] at HAD;refine HAD.mono ?_;rintro e w7 ⟨rfl,hM7,hg7⟩;clear HAD) | go_in)
    go_ret
    exact HEND.out _ _ _ hA hM6 hg6 hM7 hg7
  ·
   obtain⟨b,off,ai,ci,rfl,c0,hI,hsz⟩:=hOL4 k hlt;dsimp only at c0 hI hsz
   obtain⟨hx1,hxg⟩:=HXG.out _ (getD_mem (y:=r0) hlt);have HT:Hid (X.take (k+1)=X.take k ++ [X.getD k r0]):=take_one hlt;have HXM:Hid (X.getD k r0∈X):=getD_mem hlt;generalize X.getD k r0=x at c0 hI hsz hx1 hxg HT HXM;rw [hx1] at c0 hI;have hI4:IL w4 ai n x.2:=hI;have HGX:Hid (goodR n C x.2):=hxg;have hxs:∀ j,j<n->(x.2 j).s.size<=1048576:=fun j hj=>by have:=(hxg j hj).1;omega
   have HX2:Hid (∀ j,j<n->(x.2 j).s.size<=200):=fun j hj=>(hxg j hj).1;obtain⟨y,hy⟩:∃ y,vlR C n x.2 E n5=y:=⟨_,rfl⟩;have hys:y.s.size<=1048576:=by rw [←hy];exact vlR_size HX2.out he3 he1 he2
   have HY:Hid (vlR C n x.2 E n5=y):=hy;have c0r:=keepB hbr c0;have hq0:(0:Int)<=(q:Int):=by omega
   have hqi:(q:Int)<(n:Int):=by omega
   have hki:(k:Int)<(X.length:Int):=by omega
   have hCb:∀ r∈Cs,r.b<wr.heap.size:=fun r hr=>(hRC r hr).2.2;obtain⟨old,hold⟩:∃ old,cur[k]?=some old:=⟨cur[k]'(by omega),by simp [hcz,hlt]⟩;have d0_:=(cell_of_row _ _ k _ _ _ hBC).trans hold;clear hy hxg hI hx1 hsz;go_wp2_with (go_at_call 109;refine(iCloneV ai n ci x.2 wr (hI4.later hbr) hn0 hn1).mono ?_;rintro e v1 ⟨g,cap,rfl,hOg,hb1⟩;have d1_:=keepB hb1 d0_;have f1_:=frozen_of_row _ _ k _ _ (rowL hBC hb1))
   have hgl:=hOg.lt g rfl;have hBC2:=heap_setCell_same v1 _ k _ _ (.slice (some ⟨g,0,none⟩) n cap) (rowL hBC hb1);have hb2:Below w4.heap.size w4 (v1.setCell ⟨w4.heap.size,k,none⟩ (.slice (some ⟨g,0,none⟩) n cap)):=bset (bstep hbr hb1) (Nat.le_refl _);replace hOg:=own_grown hOg (gset v1 w4.heap.size k (.slice (some ⟨g,0,none⟩) n cap)) (by intro e;have:=Option.some.inj e;omega);replace hRC:∀ r∈Cs,RC w4 (v1.setCell ⟨w4.heap.size,k,none⟩ (.slice (some ⟨g,0,none⟩) n cap)) r:=fun r hr=>((hRC r hr).imp3 hb1).set (by have:=(hRC r hr).2.1;omega);have hc2k:(cur.setIfInBounds k (.slice (some ⟨g,0,none⟩) n cap))[k]?=some (.slice (some ⟨g,0,none⟩) n cap):=by simp [hcz,hlt]
   have hc2z:(cur.setIfInBounds k (.slice (some ⟨g,0,none⟩) n cap)).size=X.length:=by simp [hcz]
   have HCJ2:Hid (∀ j,j<k->(cur.setIfInBounds k (.slice (some ⟨g,0,none⟩) n cap))[j]?=some (Cs.getD j o0).v):=fun j hj=>by rw [Array.getElem?_setIfInBounds_ne (by omega)];exact HCJ.out j hj
   generalize cur.setIfInBounds k (.slice (some ⟨g,0,none⟩) n cap)=cur2 at hBC2 hc2k hc2z HCJ2;have hs2v:(v1.setCell ⟨w4.heap.size,k,none⟩ (.slice (some ⟨g,0,none⟩) n cap)).heap.size=v1.heap.size:=World.size_setCell _ _ _;generalize v1.setCell ⟨w4.heap.size,k,none⟩ (.slice (some ⟨g,0,none⟩) n cap)=v2 at hBC2 hb2 hOg hRC hs2v ⊢;clear d0_ d1_ f1_ hold old hBC hcz HCJ c0 c0r;refine wp_region_held_drew (S:=fun x_=>Below w4.heap.size w4 x_/\x_.heap[w4.heap.size]?=some (.cells cur2 41 (0,0))) (by kernel_rfl) (⟨bstep hb2 (bdrew _),hBC2⟩) (fun jH=>?_);replace hOg:v2.drew.ownsRow _ _ _ _ _ _:=hOg;replace hRC:∀ r∈Cs,RC w4 v2.drew r:=hRC;generalize v2.drew=v at jH hOg hRC ⊢;refine tk 0 qXh0 (fun x jS=>by go_simp<;>rfl) jH ?_
   try simp only [zS]
   refine tk 1 qXh1 (fun x jS=>by go_simp<;>rfl) jH ?_
   try simp only [zS]
   refine tk 2 qXh2 (fun x jS=>by go_simp<;>rfl) jH ?_
   try simp only [zS]
   refine tk 3 qXh3 (fun x jS=>by obtain⟨s1,s2⟩:=jS;obtain⟨k1a,k1b⟩:=box2 (rowL r1 s1);obtain⟨-,-,-,-,k2e,k2f,-,-⟩:=box8 (rowL r2 s1);have kc:=(cell_of_row _ _ k _ _ _ s2).trans hc2k;have hlk:=plRun (hP4.later s1) HDP.out HQ.out hcs;go_simp<;>rfl) jH ?_
   try simp only [zS]
   refine tk 4 qXh4 (fun x jS=>by go_simp<;>rfl) jH ?_
   try simp only [zS]
   refine tk 5 qXh5 (fun x jS=>by obtain⟨s1,s2⟩:=jS;obtain⟨k1a,k1b⟩:=box2 (rowL r1 s1);obtain⟨-,-,-,-,k2e,k2f,-,-⟩:=box8 (rowL r2 s1);have kc:=(cell_of_row _ _ k _ _ _ s2).trans hc2k;have hlk:=plRun (hP4.later s1) HDP.out HQ.out hcs;go_simp<;>rfl) jH ?_
   try simp only [zS]
   refine tk 6 qXh6 (fun x jS=>by go_simp<;>rfl) jH ?_
   try simp only [zS]
   refine tk 7 qXh7 (fun x jS=>by obtain⟨s1,s2⟩:=jS;obtain⟨k1a,k1b⟩:=box2 (rowL r1 s1);obtain⟨-,-,-,-,k2e,k2f,-,-⟩:=box8 (rowL r2 s1);have kc:=(cell_of_row _ _ k _ _ _ s2).trans hc2k;have hlk:=plRun (hP4.later s1) HDP.out HQ.out hcs;go_simp<;>rfl) jH ?_
   try simp only [zS]
   refine tk 8 qXh8 (fun x jS=>by obtain⟨s1,s2⟩:=jS;obtain⟨k1a,k1b⟩:=box2 (rowL r1 s1);obtain⟨-,-,-,-,k2e,k2f,-,-⟩:=box8 (rowL r2 s1);have kc:=(cell_of_row _ _ k _ _ _ s2).trans hc2k;have hlk:=plRun (hP4.later s1) HDP.out HQ.out hcs;go_simp<;>rfl) jH ?_
   try simp only [zS]
   refine tk 9 qXh9 (fun x jS=>by obtain⟨s1,s2⟩:=jS;obtain⟨k1a,k1b⟩:=box2 (rowL r1 s1);obtain⟨-,-,-,-,k2e,k2f,-,-⟩:=box8 (rowL r2 s1);have kc:=(cell_of_row _ _ k _ _ _ s2).trans hc2k;have hlk:=plRun (hP4.later s1) HDP.out HQ.out hcs;go_simp<;>rfl) jH ?_
   try simp only [zS]
   refine tk 10 qXh10 (fun x jS=>by go_simp<;>rfl) jH ?_
   try simp only [zS]
   refine tk 11 qXh11 (fun x jS=>by obtain⟨s1,s2⟩:=jS;obtain⟨k1a,k1b⟩:=box2 (rowL r1 s1);obtain⟨-,-,-,-,k2e,k2f,-,-⟩:=box8 (rowL r2 s1);have kc:=(cell_of_row _ _ k _ _ _ s2).trans hc2k;have hlk:=plRun (hP4.later s1) HDP.out HQ.out hcs;go_simp<;>rfl) jH ?_
   try simp only [zS]
   refine tk 12 qXh12 (fun x jS=>by go_simp<;>rfl) jH ?_
   try simp only [zS]
   refine rd 13 qXh13 (fun K hK=>?_);have HV:=iValue5 ac n cc C pb ai ci x.2 a5 n5 c5 E v (hP4.later jH.1) HDP.out (hI4.later jH.1) (hE4.later jH.1) he1 he3 HCK.out HGX.out;rw [HY.out] at HV;go_simp;refine HV.mono ?_;rintro e v3 ⟨rfl,hb3⟩;clear HV;replace hOg:=own_below hOg hb3;replace hRC:=fun r hr=>(hRC r hr).imp3 hb3;refine hK.out _ _ ⟨bstep jH.1 hb3,rowL jH.2 hb3⟩ (fun jH=>?_);clear hK K;try simp only [zS]
   refine tk 14 qXh14 (fun x jS=>by go_simp<;>rfl) jH ?_
   try simp only [zS]
   refine rd 15 qXh15 (fun K hK=>?_);obtain⟨y0_,y1_,y2_⟩:=il_cells (own_il hOg hxs) hqn;obtain⟨fz0,fz1,fz2⟩:=own_froz hOg (q * 3);have hILY:IL (((v3.setCell ⟨g,q * 3,none⟩ (.int .i64 y.o)).setCell ⟨g,q * 3+1,none⟩ (.int .i64 y.m)).setCell ⟨g,q * 3+2,none⟩ (.string y.s)) (some ⟨g,0,none⟩) n (upd x.2 q y):=own_upd hOg hxs hys hqn;have hbkY:=own_blkY hOg q y;go_simp;refine hK.out _ _ ⟨bset (bset (bset jH.1 (by omega)) (by omega)) (by omega),rowO (rowO (rowO jH.2 (by omega)) (by omega)) (by omega)⟩ (fun jH=>?_);clear hK K;try simp only [Act.put]
   refine wpAnyH_done (by kernel_rfl) ?_ _;have hRCY:∀ r∈Cs,RC w4 (((v3.setCell ⟨g,q * 3,none⟩ (.int .i64 y.o)).setCell ⟨g,q * 3+1,none⟩ (.int .i64 y.m)).setCell ⟨g,q * 3+2,none⟩ (.string y.s)) r:=fun r hr=>(((hRC r hr).set (by have:=hCb r hr;omega)).set (by have:=hCb r hr;omega)).set (by have:=hCb r hr;omega);have hsY:(((v3.setCell ⟨g,q * 3,none⟩ (.int .i64 y.o)).setCell ⟨g,q * 3+1,none⟩ (.int .i64 y.m)).setCell ⟨g,q * 3+2,none⟩ (.string y.s)).heap.size=v3.heap.size:=by rw [World.size_setCell,World.size_setCell,World.size_setCell]
   have hglY:=hOg.lt g rfl;generalize (((v3.setCell ⟨g,q * 3,none⟩ (.int .i64 y.o)).setCell ⟨g,q * 3+1,none⟩ (.int .i64 y.m)).setCell ⟨g,q * 3+2,none⟩ (.string y.s))=v5 at hILY hbkY jH hRCY hsY ⊢;obtain⟨hb5,hBC5⟩:=jH;have kc5:=(cell_of_row _ _ k _ _ _ hBC5).trans hc2k;have HL:=iLongest (some ⟨g,0,none⟩) n cap (upd x.2 q y) v5 hILY hn1;have hlon:=lon_upd (q:=q) (y:=y) HX2.out hqn;have hRoY:RoAt v5 ⟨g,cap,(n,upd x.2 q y)⟩:=⟨hbkY,hILY⟩;have HCF:Hid (chF C n q E n5 x=(n,upd x.2 q y)):=by show _=_;unfold chF;rw [HY.out,HXG.out x HXM.out |>.1]
   have HBF:Hid (bgF C n E n5 x=decide (200<y.s.size)):=by show _=_;unfold bgF;rw [HY.out]
   by_cases hbg:200<y.s.size
   ·
    have hl2:=hlon.2 hbg;have hl:(200:Int)<(lonI (upd x.2 q y) n:Int):=by omega
    generalize lonI (upd x.2 q y) n=ln at HL hl;clear hlon hl2;go_wp2_with (go_at_call 91;refine HL.mono ?_;rintro e v6 ⟨rfl,hb6⟩)
    go_ret
    refine⟨belGr (bstep hbw4 (bstep hb5 hb6)) _,Or.inl ⟨?_,rfl,hM4.later (bstep hb5 hb6)⟩⟩;exact List.any_eq_true.2 ⟨x,HXM.out,by rw [HBF.out];simpa using hbg⟩
   ·
    have hl2:¬200<lonI (upd x.2 q y) n:=fun z=>hbg (hlon.1 z);have hl:¬(200:Int)<(lonI (upd x.2 q y) n:Int):=by omega
    generalize lonI (upd x.2 q y) n=ln at HL hl;clear hlon hl2;go_wp2_with (go_at_call 91;refine HL.mono ?_;rintro e v6 ⟨rfl,hb6⟩)
    go_roundw
    case rel=>exact⟨k+1,Cs ++ [⟨g,cap,(n,upd x.2 q y)⟩],cur2,by omega,by go_num,by rw [HT.out,List.map_append,List.map_append,HCX.out,List.map_singleton,List.map_singleton,HCF.out],by simp [hCl],fun r hr=>by
     rcases List.mem_append.1 hr with h | h
     · exact(hRCY r h).imp3 hb6
     · rw [List.mem_singleton] at h;subst h;exact⟨hRoY.all (BlkC.below hb6),by show w4.heap.size<g;omega,by show g<_;have:=hb6.size;omega⟩,by
     rw [List.map_append,List.nodup_append];refine⟨HND.out,by simp,fun a ha b hb=>?_⟩;obtain⟨r,hr,rfl⟩:=List.mem_map.1 ha;have h1:=hCb r hr;have h2:b=g:=by simpa using hb
     omega,rowL hBC5 hb6,hc2z,fun j hj=>by
     by_cases e:j=k
     · subst e;rw [hc2k,getD_last hCl];rfl
     · rw [HCJ2.out j (by omega),getD_init (by omega)],by rw [HT.out,List.any_append,HBG.out];simp [HBF.out,hbg],bstep hb5 hb6,by have:=hb6.size;omega⟩
    case measure=>simp [intOf];omega
end Go.Proofs.YtgeiamgeclbiaaaGreatDoor
