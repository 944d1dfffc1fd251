import Derived.Test.YtgeiamgeclbiaaaGreatDoorXj
namespace Go.Proofs.YtgeiamgeclbiaaaGreatDoor
open Go.RowKit Go.Maps Go.WideMaps
set_option maxRecDepth 20000
set_option maxHeartbeats 16000000
structure Tb where
 s:ByteArray
 n:Nat
 C:Nat->Clm
 bc:Nat
 cc:Nat
 br:Option Nat
 cr:Nat
 L:List Ro
def b0:Tb:=⟨⟨#[]⟩,0,fun _=>⟨⟨#[]⟩,0⟩,0,0,none,0,[]⟩
def Tb.ar(t:Tb):Option Addr:=t.br.map fun b=>⟨b,0,none⟩
def Tb.bl(t:Tb):List Nat:=t.bc :: (t.br.toList ++ t.L.map Ro.b)
structure TbAt(w:World)(t:Tb):Prop where
 col:∃ cur,w.heap[t.bc]?=some (.cells cur 113 (0,0))/\t.n * 2<=cur.size
 cl:CL w (some ⟨t.bc,0,none⟩) t.n t.C
 ros:∀ r∈t.L,RoAt w r
 row:t.L.length=0∨∃ b cur,t.br=some b/\w.heap[b]?=some (.cells cur 41 (0,0))/\∀ j,j<t.L.length->cur[j]?=some (t.L.getD j o0).v
structure TbOf(t:Tb)(d:Td):Prop where
 s:t.s=d.s
 n:t.n=d.n
 C:t.C=d.C
 L:t.L.map Ro.x=(List.range d.r).map (fun i=>(d.m i,d.R i))
def DbAt(w:World)(g:Nat)(A:List Tb):Prop:=
 (∃ cur,w.heap[g]?=some (.cells cur 62 (0,0))/\A.length * 3<=cur.size/\∀ i,i<A.length->cur[i * 3]?=some (.string (A.getD i b0).s)/\cur[i * 3+1]?=some (.slice (some ⟨(A.getD i b0).bc,0,none⟩) (A.getD i b0).n (A.getD i b0).cc)/\cur[i * 3+2]?=some (.slice (A.getD i b0).ar (A.getD i b0).L.length (A.getD i b0).cr))/\(∀ t∈A,TbAt w t)/\(g :: A.flatMap Tb.bl).Nodup
theorem CL.blk{w w':World}{b n:Nat}{C:Nat->Clm}{cur:Array Value}{t:TypeId}{f:Nat×Nat}(h:CL w (some ⟨b,0,none⟩) n C)(h1:w.heap[b]?=some (.cells cur t f))(h2:w'.heap[b]?=some (.cells cur t f)):CL w' (some ⟨b,0,none⟩) n C:=fun j hj=>by
 obtain⟨b',off,e,c0,c1,hs⟩:=h j hj;injection e with e;injection e with e1 e2 e3;subst e1 e2;have hh:w'.heap[b]?=w.heap[b]?:=h2.trans h1.symm;exact⟨b,0,rfl,(World.cell?_of_block hh).trans c0,(World.cell?_of_block hh).trans c1,hs⟩
theorem TbAt.all{w w':World}{t:Tb}(h:TbAt w t)(k:BlkC w w'):TbAt w' t:=by
 obtain⟨⟨cur,h1,h2⟩,h3,h4,h5⟩:=h;refine⟨⟨cur,k.2 _ _ _ _ h1,h2⟩,h3.blk h1 (k.2 _ _ _ _ h1),fun r hr=>(h4 r hr).all k,?_⟩;rcases h5 with h5 | ⟨b,cur2,h6,h7,h8⟩
 · exact Or.inl h5
 · exact Or.inr ⟨b,cur2,h6,k.2 _ _ _ _ h7,h8⟩
def BlkX(g:Nat)(w w':World):Prop:=w.heap.size<=w'.heap.size/\∀ (b:Nat) cur t f,b≠g->w.heap[b]?=some (Obj.cells cur t f)->w'.heap[b]?=some (Obj.cells cur t f)
theorem BlkX.of{g:Nat}{w w':World}(h:BlkC w w'):BlkX g w w':=⟨h.1,fun b cur t f _ hb=>h.2 b cur t f hb⟩
theorem BlkX.trans{g:Nat}{a b c:World}(h:BlkX g a b)(k:BlkX g b c):BlkX g a c:=⟨Nat.le_trans h.1 k.1,fun x cur t f hx hb=>k.2 x cur t f hx (h.2 x cur t f hx hb)⟩
theorem BlkX.set(g i:Nat)(w:World)(v:Value):BlkX g w (w.setCell ⟨g,i,none⟩ v):=⟨by rw [World.size_setCell];exact Nat.le_refl _,fun _ _ _ _ hne hb=>rowO hb hne⟩
theorem RoAt.allX{g:Nat}{w w':World}{r:Ro}(h:RoAt w r)(k:BlkX g w w')(hg:r.b≠g):RoAt w' r:=by
 obtain⟨⟨cur,h1,h2⟩,h3⟩:=h;refine⟨⟨cur,k.2 _ _ _ _ hg h1,h2⟩,fun j hj=>?_⟩;obtain⟨b,off,e,c0,c1,c2,hs⟩:=h3 j hj;injection e with e;injection e with e1 e2 e3;subst e1 e2;have hb:w'.heap[r.b]?=w.heap[r.b]?:=(k.2 _ _ _ _ hg h1).trans h1.symm;exact⟨r.b,0,rfl,(World.cell?_of_block hb).trans c0,(World.cell?_of_block hb).trans c1,(World.cell?_of_block hb).trans c2,hs⟩
theorem TbAt.allX{g:Nat}{w w':World}{t:Tb}(h:TbAt w t)(k:BlkX g w w')(hg:g ∉ t.bl):TbAt w' t:=by
 obtain⟨⟨cur,h1,h2⟩,h3,h4,h5⟩:=h;have e1:t.bc≠g:=fun e=>hg (by unfold Tb.bl;rw [e];exact List.mem_cons_self);refine⟨⟨cur,k.2 _ _ _ _ e1 h1,h2⟩,h3.blk h1 (k.2 _ _ _ _ e1 h1),fun r hr=>(h4 r hr).allX k (fun e=>hg ?_),?_⟩
 · unfold Tb.bl;rw [←e];exact List.mem_cons_of_mem _ (List.mem_append_right _ (List.mem_map_of_mem hr))
 rcases h5 with h5 | ⟨b,cur2,h6,h7,h8⟩
 · exact Or.inl h5
 · refine Or.inr ⟨b,cur2,h6,k.2 _ _ _ _ (fun e=>hg ?_) h7,h8⟩;unfold Tb.bl;rw [h6,←e];exact List.mem_cons_of_mem _ (List.mem_append_left _ (by simp))
def set3(cur:Array Value)(k:Nat)(x y z:Value):Array Value:=((cur.setIfInBounds (k * 3) x).setIfInBounds (k * 3+1) y).setIfInBounds (k * 3+2) z
theorem set3_size(cur:Array Value)(k:Nat)(x y z:Value):(set3 cur k x y z).size=cur.size:=by simp [set3]
theorem set3_old{cur:Array Value}{k i e:Nat}{x y z:Value}(h:i<k)(he:e<3):(set3 cur k x y z)[i * 3+e]?=cur[i * 3+e]?:=by
 unfold set3;rw [Array.getElem?_setIfInBounds_ne (by omega),Array.getElem?_setIfInBounds_ne (by omega),Array.getElem?_setIfInBounds_ne (by omega)]
theorem set3_new{cur:Array Value}{k:Nat}{x y z:Value}(h:k * 3+2<cur.size):(set3 cur k x y z)[k * 3]?=some x/\(set3 cur k x y z)[k * 3+1]?=some y/\(set3 cur k x y z)[k * 3+2]?=some z:=by
 unfold set3;refine⟨?_,?_,?_⟩
 · rw [Array.getElem?_setIfInBounds_ne (by omega),Array.getElem?_setIfInBounds_ne (by omega)];simp [show k * 3<cur.size by omega]
 · rw [Array.getElem?_setIfInBounds_ne (by omega)];simp [show k * 3+1<cur.size by omega]
 · simp [show k * 3+2<cur.size by omega]
theorem row_set3{w:World}{g k:Nat}{cur:Array Value}{t:TypeId}{x y z:Value}(h:w.heap[g]?=some (.cells cur t (0,0))):(((w.setCell ⟨g,k * 3,none⟩ x).setCell ⟨g,k * 3+1,none⟩ y).setCell ⟨g,k * 3+2,none⟩ z).heap[g]?=some (.cells (set3 cur k x y z) t (0,0)):=
 heap_setCell_same _ _ _ _ _ _ (heap_setCell_same _ _ _ _ _ _ (heap_setCell_same _ _ _ _ _ _ h))
theorem blk_set3(w:World)(g k:Nat)(x y z:Value):BlkX g w (((w.setCell ⟨g,k * 3,none⟩ x).setCell ⟨g,k * 3+1,none⟩ y).setCell ⟨g,k * 3+2,none⟩ z):=((BlkX.set _ _ _ _).trans (BlkX.set _ _ _ _)).trans (BlkX.set _ _ _ _)
theorem own_blkC{w:World}{G g cap n:Nat}{xs:List Value}(h:w.ownsRow G 113 2 (.slice (some ⟨g,0,none⟩) n cap) n xs):∃ cur,w.heap[g]?=some (.cells cur 113 (0,0))/\n * 2<=cur.size:=by
 obtain⟨-,h | ⟨g',cap',cur,e,-,h1,h2,-,h3,-⟩⟩:=h
 · cases h.1
 ·
  obtain⟨rfl,rfl⟩:g=g'/\cap=cap':=by simpa using e
  exact⟨cur,h1,by rw [h3];exact Nat.mul_le_mul_right 2 h2⟩
theorem get_last{A:List Tb}{t:Tb}{k:Nat}(h:A.length=k):(A ++ [t]).getD k b0=t:=by subst h;simp
theorem get_init{A:List Tb}{t:Tb}{j:Nat}(h:j<A.length):(A ++ [t]).getD j b0=A.getD j b0:=by simp [List.getElem?_append_left h]
def CpP(w:World)(n:Nat)(T:Nat->Td)(e:Ending)(w':World):Prop:=∃ g A,e=.returned (.agg #[.slice (some ⟨g,0,none⟩) n n])/\DbAt w' g A/\A.length=n/\(∀ i,i<n->TbOf (A.getD i b0) (T i))/\(∀ b∈g :: A.flatMap Tb.bl,w.heap.size<=b/\b<w'.heap.size)/\(∀ cur,w'.heap[g]?=some (.cells cur 62 (0,0))->cur.size=n * 3)/\Below w.heap.size w w'
theorem iCopy(a:Option Addr)(n c:Nat)(T:Nat->Td)(w:World)(hT:TL w a n T)(hn:n<=100000)(hN:∀ k,k<n->0<(T k).n/\∀ i,i<(T k).r->0<(T k).m i) :
 Calls Tryz.prog 60 #[.agg #[.slice a n c]] w (CpP w n T):=by
 have HNN:Hid (∀ k,k<n->0<(T k).n/\∀ i,i<(T k).r->0<(T k).m i):=hN;have hmk:∀ w:World,(Instr.makeSlice 36 (.int .i64 (n:Int)) (.int .i64 (n:Int))).run Tryz.prog w=.ok (.slice (some ⟨w.heap.size,0,none⟩) n n) (w.alloc (.cells (madeCells #[Value.string ByteArray.empty,Value.slice none 0 0,Value.slice none 0 0] (n * 3)) 62)):=fun w=>make_any (t:=36) Tryz.underlying36 Tryz.infoTab n (by omega) (by omega) w;have hs1:(w.alloc (.cells #[.slice a n c] 38)).heap.size=w.heap.size+1:=World.size_alloc _ _;have hs2:((w.alloc (.cells #[.slice a n c] 38)).alloc (.cells #[.slice none 0 0] 38)).heap.size=w.heap.size+1+1:=by rw [World.size_alloc,hs1]
 have hbW:Below w.heap.size w (((w.alloc (.cells #[.slice a n c] 38)).alloc (.cells #[.slice none 0 0] 38)).alloc (.cells (madeCells #[Value.string ByteArray.empty,Value.slice none 0 0,Value.slice none 0 0] (n * 3)) 62)):=below3 _ _ _ _;have hr0:(((w.alloc (.cells #[.slice a n c] 38)).alloc (.cells #[.slice none 0 0] 38)).alloc (.cells (madeCells #[Value.string ByteArray.empty,Value.slice none 0 0,Value.slice none 0 0] (n * 3)) 62)).heap[w.heap.size]?=some (.cells #[.slice a n c] 38 (0,0)):=rowL (rowL (heap_alloc_new w _) (bal _ _)) (bal _ _);have hr1:(((w.alloc (.cells #[.slice a n c] 38)).alloc (.cells #[.slice none 0 0] 38)).alloc (.cells (madeCells #[Value.string ByteArray.empty,Value.slice none 0 0,Value.slice none 0 0] (n * 3)) 62)).heap[w.heap.size+1]?=some (.cells #[.slice none 0 0] 38 (0,0)):=by
  have z:=rowL (heap_alloc_new (w.alloc (.cells #[.slice a n c] 38)) (.cells #[.slice none 0 0] 38)) (bal _ (.cells (madeCells #[Value.string ByteArray.empty,Value.slice none 0 0,Value.slice none 0 0] (n * 3)) 62));rw [hs1] at z;exact z
 have hr2:=heap_alloc_new ((w.alloc (.cells #[.slice a n c] 38)).alloc (.cells #[.slice none 0 0] 38)) (.cells (madeCells #[Value.string ByteArray.empty,Value.slice none 0 0,Value.slice none 0 0] (n * 3)) 62);rw [hs2] at hr2;have hs3:(((w.alloc (.cells #[.slice a n c] 38)).alloc (.cells #[.slice none 0 0] 38)).alloc (.cells (madeCells #[Value.string ByteArray.empty,Value.slice none 0 0,Value.slice none 0 0] (n * 3)) 62)).heap.size=w.heap.size+1+1+1:=by rw [World.size_alloc,hs2]
 obtain⟨x0_,-⟩:=box1 hr0;go_enter Tryz.func60,Tryz.ntmps60
 go_wp2;clear hmk;go_loopw [4,5,6,7,8,16] (fun _ _ _ _ _ i wr=>∃ (k:Nat) (A:List Tb) (cur:Array Value),k<=n/\i=.int .i64 k/\A.length=k/\(∀ i,i<k->TbOf (A.getD i b0) (T i))/\(∀ t∈A,TbAt wr t)/\(A.flatMap Tb.bl).Nodup/\(∀ b∈A.flatMap Tb.bl,w.heap.size+1+1<b/\b<wr.heap.size)/\wr.heap[w.heap.size+1+1]?=some (.cells cur 62 (0,0))/\cur.size=n * 3/\(∀ i,i<k->cur[i * 3]?=some (.string (A.getD i b0).s)/\cur[i * 3+1]?=some (.slice (some ⟨(A.getD i b0).bc,0,none⟩) (A.getD i b0).n (A.getD i b0).cc)/\cur[i * 3+2]?=some (.slice (A.getD i b0).ar (A.getD i b0).L.length (A.getD i b0).cr))/\wr.heap[w.heap.size+1]?=some (.cells #[.slice none 0 0] 38 (0,0))/\Below w.heap.size w wr/\w.heap.size+1+1<wr.heap.size) (fun _ _ _ _ _ i _=>n - (intOf i).toNat)
 case atStart=>exact⟨0,[],_,by omega,rfl,rfl,fun i hi=>by omega,by simp,by simp,by simp,hr2,made_size _ _,fun i hi=>by omega,hr1,hbW,by rw [hs3];omega⟩
 case round=>
  obtain⟨k,A,cur,hk,rfl,hAl,hAT,hAA,hnd,hbl,hBT,hcz,hcc,hRes,hb,hsr⟩:=hrel;have HAT:Hid (∀ i,i<k->TbOf (A.getD i b0) (T i)):=hAT;have HND:Hid ((A.flatMap Tb.bl).Nodup):=hnd;have HBL:Hid (∀ b∈A.flatMap Tb.bl,w.heap.size+1+1<b/\b<wr.heap.size):=hbl;have HCC:Hid (∀ i,i<k->cur[i * 3]?=some (.string (A.getD i b0).s)/\cur[i * 3+1]?=some (.slice (some ⟨(A.getD i b0).bc,0,none⟩) (A.getD i b0).n (A.getD i b0).cc)/\cur[i * 3+2]?=some (.slice (A.getD i b0).ar (A.getD i b0).L.length (A.getD i b0).cr)):=hcc;clear hAT hnd hbl hcc hr0 hr1 hr2 hbW hs1 hs2 hs3 x0_;by_cases hlt:k<n
  rotate_left
  ·
   obtain rfl:k=n:=by omega
   obtain⟨y0_,g0_⟩:=box1 hRes;go_wp2;refine bodyPost_ret (results_cell_row Tryz.results60 _ _ (w.heap.size+1) 38 _ (0,0) _ rfl (row1 hRes _) Tryz.underlying38 rfl (by kernel_rfl)) rfl ?_;have hbc:BlkX (w.heap.size+1) wr (wr.setCell ⟨w.heap.size+1,0,none⟩ (.slice (some ⟨w.heap.size+1+1,0,none⟩) k k)):=BlkX.set _ _ _ _;refine⟨w.heap.size+1+1,A,rfl,⟨⟨cur,rowO hBT (by omega),by rw [hAl,hcz];exact Nat.le_refl _,fun i hi=>HCC.out i (by omega)⟩,fun t ht=>(hAA t ht).allX hbc (fun hm=>?_),?_⟩,hAl,HAT.out,?_,fun cu hcu=>?_,bset hb (by omega)⟩
   · have:=(HBL.out _ (List.mem_flatMap.2 ⟨t,ht,hm⟩)).1;omega
   · rw [List.nodup_cons];refine⟨fun hm=>?_,HND.out⟩;have:=(HBL.out _ hm).1;omega
   ·
    intro b hm;rw [World.size_setCell];rcases List.mem_cons.1 hm with h | h
    · omega
    · have:=HBL.out _ h;omega
   · have hz:=(rowO hBT (by omega):(wr.setCell ⟨w.heap.size+1,0,none⟩ (.slice (some ⟨w.heap.size+1+1,0,none⟩) k k)).heap[w.heap.size+1+1]?=_);rw [hz] at hcu;injection hcu with hcu;injection hcu with hcu;rw [←hcu,hcz]
  ·
   have hpos:=HNN.out k hlt;have HTK:Hid (∀ t,TbOf t (T k)->∀ i,i<k+1->TbOf ((A ++ [t]).getD i b0) (T i)):=fun t ht i hi=>by
    by_cases e:i=k
    · subst e;rw [get_last hAl];exact ht
    · rw [get_init (by omega)];exact HAT.out i (by omega)
   obtain⟨bt,offt,ac,cc,ar,cr,rfl,c0,c1,c2,hC,hR,hsm⟩:=hT.later hb k hlt;generalize T k=d at c0 c1 c2 hC hR hsm hpos HTK;obtain⟨hdn0,hpm⟩:=hpos;have HPM:Hid (∀ i,i<d.r->0<d.m i):=hpm;clear hpm;have hkn:(k:Int)<n:=by omega
   have hdn1:=hsm.co.1;have hdr:=hsm.ro.1;have HSM:Hid (Sm3 d):=hsm;clear hsm;have hmk:∀ w:World,(Instr.makeSlice 33 (.int .i64 (d.r:Int)) (.int .i64 (d.r:Int))).run Tryz.prog w=.ok (.slice (some ⟨w.heap.size,0,none⟩) d.r d.r) (w.alloc (.cells (madeCells #[Value.slice none 0 0] d.r) 41)):=fun w=>by
    have z:=make_any (t:=33) Tryz.underlying33 Tryz.infoRow d.r (by omega) (by omega) w;rw [Nat.mul_one] at z;exact z
   obtain⟨wo,hwo⟩:∃ x,x=wr:=⟨_,rfl⟩;subst hwo;have hx1:(wo.alloc (.cells #[.string d.s,.slice ac d.n cc,.slice ar d.r cr] 62)).heap.size=wo.heap.size+1:=World.size_alloc _ _;have hx2:((wo.alloc (.cells #[.string d.s,.slice ac d.n cc,.slice ar d.r cr] 62)).alloc (.cells (madeCells #[Value.slice none 0 0] d.r) 41)).heap.size=wo.heap.size+1+1:=by rw [World.size_alloc,hx1]
   have hbx0:=rowL (heap_alloc_new wo (.cells #[.string d.s,.slice ac d.n cc,.slice ar d.r cr] 62)) (bal _ (.cells (madeCells #[Value.slice none 0 0] d.r) 41));have hbr0:=heap_alloc_new (wo.alloc (.cells #[.string d.s,.slice ac d.n cc,.slice ar d.r cr] 62)) (.cells (madeCells #[Value.slice none 0 0] d.r) 41);rw [hx1] at hbr0;have hbX:Below wo.heap.size wo ((wo.alloc (.cells #[.string d.s,.slice ac d.n cc,.slice ar d.r cr] 62)).alloc (.cells (madeCells #[Value.slice none 0 0] d.r) 41)):=bstep (bal _ _) (bal _ _);go_wp2;clear hmk;go_loopw [7,8,28] (fun _ _ i wr=>∃ (j:Nat) (L:List Ro) (cr2:Array Value),j<=d.r/\i=.int .i64 j/\L.map Ro.x=(List.range j).map (fun i=>(d.m i,d.R i))/\L.length=j/\(∀ r∈L,RoAt wr r/\wo.heap.size+1<r.b/\r.b<wr.heap.size)/\(L.map Ro.b).Nodup/\wr.heap[wo.heap.size+1]?=some (.cells cr2 41 (0,0))/\cr2.size=d.r/\(∀ i,i<j->cr2[i]?=some (L.getD i o0).v)/\wr.heap[wo.heap.size]?=some (.cells #[.string d.s,.slice ac d.n cc,.slice ar d.r cr] 62 (0,0))/\Below wo.heap.size wo wr/\wo.heap.size+1<wr.heap.size) (fun _ _ i _=>d.r - (intOf i).toNat)
   case atStart=>exact⟨0,[],_,by omega,rfl,by simp,rfl,by simp,by simp,hbr0,made_size _ _,fun i hi=>by omega,hbx0,hbX,by rw [hx2];omega⟩
   case round=>
    obtain⟨j,L,cr2,hj,rfl,hLx,hLl,hLA,hLn,hBR,hrz,hrc,hbx,hbi,hsi⟩:=hrel;have HLX:Hid (L.map Ro.x=(List.range j).map (fun i=>(d.m i,d.R i))):=hLx;have HLN:Hid ((L.map Ro.b).Nodup):=hLn;have HRC:Hid (∀ i,i<j->cr2[i]?=some (L.getD i o0).v):=hrc;clear hLx hLn hrc hbx0 hbr0 hbX hx1 hx2;by_cases hjl:j<d.r
    ·
     obtain⟨b,off,ai,ci,rfl,d0,hI,hsz⟩:=hR.later hbi j hjl;have hm0:=HPM.out j hjl;have hjd:(j:Int)<d.r:=by omega
     obtain⟨old,hold⟩:∃ old,cr2[j]?=some old:=⟨cr2[j]'(by omega),by simp [hrz,hjl]⟩;have d1:=(cell_of_row _ _ j _ _ _ hBR).trans hold;have hxs:∀ i,i<d.m j->(d.R j i).s.size<=1048576:=fun i hi=>(HSM.out.ro.2 j hjl).2 i hi;have HRJ:Hid ((List.range (j+1)).map (fun i=>(d.m i,d.R i))=(List.range j).map (fun i=>(d.m i,d.R i)) ++ [(d.m j,d.R j)]):=by show _=_;rw [List.range_succ,List.map_append];rfl
     generalize d.m j=mj at d0 hI hsz hm0 hxs HRJ;generalize d.R j=Rj at hI hxs HRJ;go_wp2_with (go_at_call 109;refine(iCloneV ai mj ci Rj wr hI hm0 hsz).mono ?_;rintro e v1 ⟨g,cap,rfl,hOg,hb1⟩;have d2:=keepB hb1 d1;have f2:=frozen_of_row _ _ j _ _ (rowL hBR hb1))
     have hgl:=hOg.lt g rfl;have hRo:=RoAt.own hOg hxs;have hset:BlkX (wo.heap.size+1) v1 (v1.setCell ⟨wo.heap.size+1,j,none⟩ (.slice (some ⟨g,0,none⟩) mj cap)):=BlkX.set _ _ _ _;have hs1:=hb1.size;go_roundw
     case rel=>exact⟨j+1,L ++ [⟨g,cap,(mj,Rj)⟩],_,by omega,by go_num,by rw [List.map_append,HLX.out,HRJ.out];rfl,by simp [hLl],fun r hr=>by
      rcases List.mem_append.1 hr with h | h
      · obtain⟨h1,h2,h3⟩:=hLA r h;exact⟨(h1.all (BlkC.below hb1)).allX hset (by omega),h2,by rw [World.size_setCell];omega⟩
      · rw [List.mem_singleton] at h;subst h;exact⟨hRo.allX hset (by show g≠_;omega),by show _<g;omega,by rw [World.size_setCell];exact hgl.2⟩,by
      rw [List.map_append,List.nodup_append];refine⟨HLN.out,by simp,fun a ha b hb=>?_⟩;obtain⟨r,hr,rfl⟩:=List.mem_map.1 ha;have h1:=(hLA r hr).2.2;have h2:b=g:=by simpa using hb
      omega,heap_setCell_same v1 _ j _ _ _ (rowL hBR hb1),by simp [hrz],fun i hi=>by
      by_cases e:i=j
      · subst e;rw [getD_last hLl];simp [hrz,hjl,Ro.v]
      · rw [Array.getElem?_setIfInBounds_ne (by omega),getD_init (by omega)];exact HRC.out i (by omega),rowO (rowL hbx hb1) (by omega),bset (bstep hbi hb1) (by omega),by rw [World.size_setCell];omega⟩
     case measure=>simp [intOf];omega
    ·
     obtain rfl:j=d.r:=by omega
     have hBTi:=rowL hBT hbi;have hbv0:Below w.heap.size w wr:=bstep hb hbi;have hvX0:BlkX (w.heap.size+1+1) wr wr:=BlkX.of ⟨Nat.le_refl _,fun _ _ _ _ h=>h⟩;go_wp2;refine wp_region_held_drew (S:=fun x_=>x_.heap[wo.heap.size]?=some (.cells #[.string d.s,.slice ac d.n cc,.slice ar d.r cr] 62 (0,0))) (by kernel_rfl) (hbx) (fun jH=>?_);have hbv2:Below wo.heap.size wo wr.drew:=bstep hbi (bdrew _);have hvX:BlkC wr wr.drew:=⟨Nat.le_refl _,fun _ _ _ _ h=>h⟩;have hBTv:wr.drew.heap[w.heap.size+1+1]?=some (.cells cur 62 (0,0)):=hBTi;have hsw:wr.drew.heap.size=wr.heap.size:=rfl;generalize wr.drew=v at jH hbv2 hvX hBTv hsw ⊢;refine tk 0 (⟨some 39,.move (.tmp 3),36,"l5_replay.go:134",#[],none⟩:Oper) (fun x jS=>by go_simp<;>rfl) jH ?_
     try simp only [zS]
     refine tk 1 (⟨some 40,.move (.tmp 4),3,"l5_replay.go:134",#[],none⟩:Oper) (fun x jS=>by go_simp<;>rfl) jH ?_
     try simp only [zS]
     refine tk 2 (⟨some 41,.fieldAddr 62 (.tmp 5) 0,0,"l5_replay.go:134",#[],none⟩:Oper) (fun x jS=>by go_simp<;>rfl) jH ?_
     try simp only [zS]
     refine tk 3 (⟨some 42,.load 9 (.tmp 41),9,"l5_replay.go:134",#[⟨2,.data⟩],none⟩:Oper) (fun x jS=>by obtain⟨i0_,i1_,i2_,-,-,-⟩:=box3 jS;go_simp<;>rfl) jH ?_
     try simp only [zS]
     refine tk 4 (⟨some 43,.fieldAddr 62 (.tmp 5) 1,0,"l5_replay.go:134",#[],none⟩:Oper) (fun x jS=>by go_simp<;>rfl) jH ?_
     try simp only [zS]
     refine tk 5 (⟨some 44,.load 40 (.tmp 43),40,"l5_replay.go:134",#[⟨4,.data⟩],none⟩:Oper) (fun x jS=>by obtain⟨i0_,i1_,i2_,-,-,-⟩:=box3 jS;go_simp<;>rfl) jH ?_
     try simp only [zS]
     refine tk 7 (⟨some 46,.move (.tmp 6),33,"l5_replay.go:134",#[],none⟩:Oper) (fun x jS=>by go_simp<;>rfl) jH ?_
     try simp only [zS]
     refine rd 6 (⟨some 45,.call ⟨.value (.func 110),#[.tmp 44],#[40]⟩,40,"l5_replay.go:134",#[⟨5,.data⟩],none⟩:Oper) (fun K hK=>?_);go_simp;refine(iCloneC ac d.n cc d.C v (hC.later hbv2) hdn0 hdn1).mono ?_;rintro e v1 ⟨gc,capc,rfl,hOc,hb1⟩;have hgc:=hOc.lt gc rfl;refine hK.out _ _ (rowL jH hb1) (fun jH=>?_);clear hK K;try simp only [zS]
     replace hbv2:=bstep hbv2 hb1;replace hvX:=hvX.trans (BlkC.below hb1);replace hBTv:=rowL hBTv hb1;have hsv1:=hb1.size;refine tk 8 (⟨some 47,.build 62 #[(0,.tmp 42),(1,.tmp 45),(2,.tmp 46)],62,"l5_replay.go:134",#[⟨3,.data⟩,⟨6,.data⟩,⟨7,.data⟩],none⟩:Oper) (fun x jS=>by go_simp<;>rfl) jH ?_
     try simp only [zS]
     refine tk 9 (⟨some 48,.indexAddr 36 (.tmp 39) (.tmp 40),0,"l5_replay.go:134",#[⟨0,.data⟩,⟨1,.data⟩,⟨0,.phase⟩,⟨1,.phase⟩,⟨2,.phase⟩,⟨3,.phase⟩,⟨4,.phase⟩,⟨5,.phase⟩,⟨6,.phase⟩,⟨7,.phase⟩,⟨8,.phase⟩],none⟩:Oper) (fun x jS=>by go_simp<;>rfl) jH ?_
     try simp only [zS]
     refine rd 10 (⟨none,.store 62 (.tmp 48) (.tmp 47),0,"l5_replay.go:134",#[⟨9,.data⟩,⟨8,.data⟩,⟨6,.chain⟩,⟨0,.phase⟩,⟨1,.phase⟩,⟨2,.phase⟩,⟨3,.phase⟩,⟨4,.phase⟩,⟨5,.phase⟩,⟨6,.phase⟩,⟨7,.phase⟩,⟨8,.phase⟩],none⟩:Oper) (fun K hK=>?_);obtain⟨q0_,hq0_⟩:∃ v,cur[k * 3]?=some v:=⟨cur[k * 3]'(by omega),by simp [show k * 3<cur.size by omega]⟩;obtain⟨q1_,hq1_⟩:∃ v,cur[k * 3+1]?=some v:=⟨cur[k * 3+1]'(by omega),by simp [show k * 3+1<cur.size by omega]⟩;obtain⟨q2_,hq2_⟩:∃ v,cur[k * 3+2]?=some v:=⟨cur[k * 3+2]'(by omega),by simp [show k * 3+2<cur.size by omega]⟩;have e0_:=(cell_of_row _ _ (k * 3) _ _ _ hBTv).trans hq0_;have e1_:=(cell_of_row _ _ (k * 3+1) _ _ _ hBTv).trans hq1_;have e2_:=(cell_of_row _ _ (k * 3+2) _ _ _ hBTv).trans hq2_;have f0_:=frozen_of_row _ _ (k * 3) _ _ hBTv;have f1_:=frozen_of_row _ _ (k * 3+1) _ _ hBTv;have f2_:=frozen_of_row _ _ (k * 3+2) _ _ hBTv;have hBT9:(((v1.setCell ⟨w.heap.size+1+1,k * 3,none⟩ (.string d.s)).setCell ⟨w.heap.size+1+1,k * 3+1,none⟩ (.slice (some ⟨gc,0,none⟩) d.n capc)).setCell ⟨w.heap.size+1+1,k * 3+2,none⟩ (.slice (some ⟨wo.heap.size+1,0,none⟩) d.r d.r)).heap[w.heap.size+1+1]?=some (.cells (set3 cur k (.string d.s) (.slice (some ⟨gc,0,none⟩) d.n capc) (.slice (some ⟨wo.heap.size+1,0,none⟩) d.r d.r)) 62 (0,0)):=row_set3 hBTv;go_simp;refine hK.out _ _ (rowO (rowO (rowO jH (by omega)) (by omega)) (by omega)) (fun jH=>?_);clear hK K;try simp only [Act.put]
     refine wpAnyH_done (by kernel_rfl) ?_ _;have hst:=blk_set3 v1 (w.heap.size+1+1) k (.string d.s) (.slice (some ⟨gc,0,none⟩) d.n capc) (.slice (some ⟨wo.heap.size+1,0,none⟩) d.r d.r);have hssz:(((v1.setCell ⟨w.heap.size+1+1,k * 3,none⟩ (.string d.s)).setCell ⟨w.heap.size+1+1,k * 3+1,none⟩ (.slice (some ⟨gc,0,none⟩) d.n capc)).setCell ⟨w.heap.size+1+1,k * 3+2,none⟩ (.slice (some ⟨wo.heap.size+1,0,none⟩) d.r d.r)).heap.size=v1.heap.size:=by rw [World.size_setCell,World.size_setCell,World.size_setCell]
     have hbW9:Below w.heap.size w (((v1.setCell ⟨w.heap.size+1+1,k * 3,none⟩ (.string d.s)).setCell ⟨w.heap.size+1+1,k * 3+1,none⟩ (.slice (some ⟨gc,0,none⟩) d.n capc)).setCell ⟨w.heap.size+1+1,k * 3+2,none⟩ (.slice (some ⟨wo.heap.size+1,0,none⟩) d.r d.r)):=bset (bset (bset (bstep hb hbv2) (by omega)) (by omega)) (by omega);have hRes9:(((v1.setCell ⟨w.heap.size+1+1,k * 3,none⟩ (.string d.s)).setCell ⟨w.heap.size+1+1,k * 3+1,none⟩ (.slice (some ⟨gc,0,none⟩) d.n capc)).setCell ⟨w.heap.size+1+1,k * 3+2,none⟩ (.slice (some ⟨wo.heap.size+1,0,none⟩) d.r d.r)).heap[w.heap.size+1]?=some (.cells #[.slice none 0 0] 38 (0,0)):=rowO (rowO (rowO (rowL hRes hbv2) (by omega)) (by omega)) (by omega);generalize (((v1.setCell ⟨w.heap.size+1+1,k * 3,none⟩ (.string d.s)).setCell ⟨w.heap.size+1+1,k * 3+1,none⟩ (.slice (some ⟨gc,0,none⟩) d.n capc)).setCell ⟨w.heap.size+1+1,k * 3+2,none⟩ (.slice (some ⟨wo.heap.size+1,0,none⟩) d.r d.r))=w9 at hBT9 hst hssz jH hbW9 hRes9 ⊢;have hTA:TbAt w9 ⟨d.s,d.n,d.C,gc,capc,some (wo.heap.size+1),d.r,L⟩:=by
      obtain⟨curc,hcc1,hcc2⟩:=own_blkC hOc;have hg9:gc≠w.heap.size+1+1:=by omega
      refine⟨⟨curc,hst.2 _ _ _ _ hg9 hcc1,hcc2⟩,(own_cl hOc HSM.out.co.2).blk hcc1 (hst.2 _ _ _ _ hg9 hcc1),fun r hr=>((hLA r hr).1.all hvX).allX hst (by have:=(hLA r hr).2.1;omega),Or.inr ⟨wo.heap.size+1,cr2,rfl,hst.2 _ _ _ _ (by omega) (hvX.2 _ _ _ _ hBR),fun i hi=>HRC.out i (by rw [←hLl];exact hi)⟩⟩
     have hTO:TbOf ⟨d.s,d.n,d.C,gc,capc,some (wo.heap.size+1),d.r,L⟩ d:=⟨rfl,rfl,rfl,HLX.out⟩;have HBN:Hid (∀ b∈Tb.bl ⟨d.s,d.n,d.C,gc,capc,some (wo.heap.size+1),d.r,L⟩,wo.heap.size<b/\b<w9.heap.size):=by
      intro b hm;rcases List.mem_cons.1 hm with h | h
      · have h':b=gc:=h;omega
      ·
       rcases List.mem_append.1 h with h | h
       ·
        have h':b=wo.heap.size+1:=by simpa using h
        omega
       · obtain⟨r,hr,rfl⟩:=List.mem_map.1 h;have:=(hLA r hr).2;have:=hvX.1;omega
     have HNN2:Hid ((Tb.bl ⟨d.s,d.n,d.C,gc,capc,some (wo.heap.size+1),d.r,L⟩).Nodup):=by
      show (gc :: ([wo.heap.size+1] ++ L.map Ro.b)).Nodup
      rw [List.nodup_cons,List.singleton_append,List.nodup_cons];refine⟨fun hm=>?_,fun hm=>?_,HLN.out⟩
      ·
       rcases List.mem_cons.1 hm with h | h
       · omega
       · obtain⟨r,hr,e⟩:=List.mem_map.1 h;have:=(hLA r hr).2.2;omega
      · obtain⟨r,hr,e⟩:=List.mem_map.1 hm;have:=(hLA r hr).2.1;omega
     have hsw9:wo.heap.size<w9.heap.size:=by omega
     have hal9:∀ t∈A,TbAt w9 t:=fun t ht=>(((hAA t ht).all (BlkC.below hbi)).all hvX).allX hst (fun hm=>by have:=(HBL.out _ (List.mem_flatMap.2 ⟨t,ht,hm⟩)).1;omega);go_wp2;go_roundw
     case rel=>exact⟨k+1,A ++ [⟨d.s,d.n,d.C,gc,capc,some (wo.heap.size+1),d.r,L⟩],_,by omega,by go_num,by simp [hAl],HTK.out _ hTO,fun t ht=>by
      rcases List.mem_append.1 ht with h | h
      · exact hal9 t h
      · rw [List.mem_singleton] at h;subst h;exact hTA,by
      rw [List.flatMap_append,List.nodup_append];refine⟨HND.out,by simpa using HNN2.out,fun a ha b hb=>?_⟩;have h1:=(HBL.out a ha).2;have h2:=(HBN.out b (by simpa using hb)).1;omega,fun b hm=>by
      rw [List.flatMap_append] at hm;rcases List.mem_append.1 hm with h | h
      · have:=HBL.out b h;omega
      · have:=HBN.out b (by simpa using h);omega,hBT9,by rw [set3_size,hcz],fun i hi=>by
      by_cases e:i=k
      ·
       subst e;rw [get_last hAl];have z:=set3_new (cur:=cur) (k:=i) (x:=.string d.s) (y:=.slice (some ⟨gc,0,none⟩) d.n capc) (z:=.slice (some ⟨wo.heap.size+1,0,none⟩) d.r d.r) (by omega);refine⟨z.1,z.2.1,?_⟩;rw [z.2.2];show _=some (Value.slice (some ⟨wo.heap.size+1,0,none⟩) L.length d.r)
       rw [hLl]
      · rw [get_init (by omega)];have z:=HCC.out i (by omega);exact⟨(set3_old (e:=0) (by omega) (by omega)).trans z.1,(set3_old (by omega) (by omega)).trans z.2.1,(set3_old (by omega) (by omega)).trans z.2.2⟩,hRes9,hbW9,by omega⟩
     case measure=>simp [intOf];omega
end Go.Proofs.YtgeiamgeclbiaaaGreatDoor
