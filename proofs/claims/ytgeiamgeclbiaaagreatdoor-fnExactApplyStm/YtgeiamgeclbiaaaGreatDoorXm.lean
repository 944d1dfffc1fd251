import Derived.Test.YtgeiamgeclbiaaaGreatDoorXk
import Derived.Laws.CopyOwn
import Derived.Deep.RegionLaw
import Derived.Shelf.RegionOpenPlain
import Derived.Lib.AppendZerosOnto
import Derived.Lib.Overlaps
import Derived.Laws.NewBlocks
import Derived.ArgAppend
namespace Go.Proofs.YtgeiamgeclbiaaaGreatDoor
open Go.RowKit
set_option maxRecDepth 20000
set_option maxHeartbeats 4000000
def cellsT(t:Tb):List Value:=[.string t.s,.slice (some ⟨t.bc,0,none⟩) t.n t.cc,.slice t.ar t.L.length t.cr]
def OwnT(w:World)(B:Nat)(v:Value)(L:List Tb):Prop:=w.ownsRow B 62 3 v L.length ((L.map cellsT).flatten)
theorem splice_take1{α:Type}(L cs:List α)(o:Nat)(h:o<=L.length):(splice L o cs).take (o+cs.length)=L.take o ++ cs:=by
 unfold splice;rw [←List.append_assoc,List.take_append_of_le_length (by simp;omega),List.take_of_length_le (by simp;omega)]
theorem cells_len(M:List Tb):((M.map cellsT).flatten).length=M.length * 3:=by
 induction M with
 | nil=>rfl
 | cons f M ih=>rw [List.map_cons,List.flatten_cons,List.length_append,ih,List.length_cons];simp [cellsT];omega
theorem cells_one(M:List Tb):∀ u∈(M.map cellsT).flatten,u.oneCell'=true:=by
 intro u hu;simp only [List.mem_flatten,List.mem_map] at hu
 obtain⟨l,⟨f,_,rfl⟩,hu⟩:=hu;simp only [cellsT,List.mem_cons,List.not_mem_nil,or_false] at hu
 rcases hu with rfl | rfl | rfl <;> rfl
theorem cells_split(L:List Tb)(i:Nat):(L.map cellsT).flatten=((L.take i).map cellsT).flatten ++ ((L.drop i).map cellsT).flatten:=by rw [←List.flatten_append,←List.map_append,List.take_append_drop]
theorem cells_from{cur:List Value}{L:List Tb}(h:cur.take (L.length * 3)=(L.map cellsT).flatten)(i:Nat)(hi:i<=L.length){t:Nat}{u:Value}(ht:(((L.drop i).map cellsT).flatten)[t]?=some u):cur[i * 3+t]?=some u:=by
 have h1:((L.map cellsT).flatten)[i * 3+t]?=some u:=by
  rw [cells_split L i,List.getElem?_append_right (by rw [cells_len,List.length_take];omega),cells_len,List.length_take,Nat.min_eq_left hi,Nat.add_sub_cancel_left];exact ht
 rw [←h,List.getElem?_take] at h1;split at h1
 · exact h1
 · cases h1
theorem run_copy3(w:World)(ty:TypeId)(g o dLen dCap:Nat)(a:Addr)(sLen sCap:Nat)(cur:Array Value)(cs:List Value)(m:Nat)(hm:Nat.min sLen dLen=m)(hg:w.heap[g]?=some (.cells cur 62 (0,0)))(hn:cs.length=m * 3)(hsrc:∀ j v,cs[j]?=some v->w.cell? (a.add j)=some v)(hfit:o+cs.length<=cur.size)(h1:∀ v∈cs,v.oneCell'=true) :
 (Builtin.copy_ #[36,36] ty #[.slice (some ⟨g,o,none⟩) dLen dCap,.slice (some a) sLen sCap]).run Tryz.prog w=.ok (goInt m) (w.setRow g (splice cur.toList o cs).toArray):=by
 obtain⟨i0,hi,hz0,hz1,hz2⟩:=info_parts Tryz.infoTab;have hf:=run_firstCells_some (P:=Tryz.prog) w 3 m a sLen sCap cs hn hsrc;have hst:=run_storeCells_at Tryz.prog g o 62 cs 0 cur w hg (by simpa using hfit) h1;simp only [Nat.add_zero,List.append_assoc] at hst
 unfold splice;simp [Builtin.copy_,run_underlying Tryz.underlying36,Builtin.lenOf,sizeOf,typeInfo,hi,hz1,hm,hf,hst]
theorem wp_copy_run{P:Program}(w:World){o:Oper}{a:Act}{K:Act->World->Prop}{Q:Exit->Act->World->Prop}(d s:Operand)(t t':TypeId)
 (ho:o.op=.call { callee:=.builtin .copy,args:=#[d,s],argTypes:=#[t,t'] }) (v u:Value) (hd:a.eval d=v) (hs:a.eval s=u) {v':Value} {w':World}
 (hr:(Builtin.copy_ #[t,t'] o.type #[v,u]).run P w=.ok v' w') (h:K (a.put o.dst v') w'):o.wp P a w K Q:=by
 unfold Oper.wp execOp;simp only [ho,resolve,invoke,builtin,Sem.run_bind,Sem.run_pure,Result.andThen_ok,List.map_toArray,List.map_cons,List.map_nil,hd,hs,hr]
 exact h
theorem wpList_copy_run{P:Program}(w:World){ops:Array Oper}{rest:List Oper}{o:Oper}{a:Act}{Q:Exit->Act->World->Prop}(hgd:o.guard=none)(d s:Operand)(t t':TypeId)
 (ho:o.op=.call { callee:=.builtin .copy,args:=#[d,s],argTypes:=#[t,t'] }) (v u:Value) (hd:a.eval d=v) (hs:a.eval s=u) {v':Value} {w':World}
 (hr:(Builtin.copy_ #[t,t'] o.type #[v,u]).run P w=.ok v' w') (h:wpList P ops Q rest (a.put o.dst v') w'):wpList P ops Q (o :: rest) a w:=
 wpList_plain hgd fun _ hK=>wp_copy_run w d s t t' ho v u hd hs hr (hK _ _ h)
theorem step_run_copy{P:Program}{ops:Array Oper}{o:Oper}{a:Act}{w:World}{K:Act->World->Prop}{Q:Exit->Act->World->Prop}{E:Prop}
 (hg:o.guard=none) (d x:Operand) (dT sT:TypeId) (hop:o.op=Op.call { callee:=Callee.builtin Builtin.copy,args:=#[d,x],argTypes:=#[dT,sT] })
 (v u:Value) (hd:a.eval d=v) (hx:a.eval x=u) {v':Value} {w':World} (hr:(Builtin.copy_ #[dT,sT] o.type #[v,u]).run P w=.ok v' w') (hK:K (a.put o.dst v') w') :
 if Region.wanted o (yielded ops a.tmps)=true then Oper.wp P o a w K Q else E:=by
 have hw:Region.wanted o (yielded ops a.tmps)=true:=by simp [Region.wanted,hg]
 rw [if_pos hw];exact wp_copy_run w d x dT sT hop v u hd hx hr hK
theorem OwnT.put{w':World}{B g cap:Nat}{L:List Tb}(f:Tb)(i:Nat)(hi:i<=L.length){row:Array Value}(hg:w'.heap[g]?=some (.cells row 62 (0,0)))(hB:B<=g)(hcap:L.length+1<=cap)(hm:cap<=maxLen)(hs:row.size=cap * 3)
 (hrow:row.toList.take ((L.length+1) * 3)=((L.take i).map cellsT).flatten ++ (cellsT f ++ ((L.drop i).map cellsT).flatten)):OwnT w' B (.slice (some ⟨g,0,none⟩) (L.length+1) cap) (L.take i ++ f :: L.drop i):=by
 have hl:(L.take i ++ f :: L.drop i).length=L.length+1:=by simp;omega
 refine⟨cells_len _,Or.inr ⟨g,cap,row,by rw [hl],hB,hg,by rw [hl];exact hcap,hm,hs,?_⟩⟩;rw [hl,hrow];simp
theorem iInsEnd(L:List Tb)(f:Tb)(g B vb:Nat)(w:World)(h:OwnT w B (.slice (some ⟨g,0,none⟩) L.length L.length) L)(hv:w.heap[vb]?=some (.cells (cellsT f).toArray 62 (0,0)))(hn:L.length<=1048576) :
 Calls Tryz.prog 146 #[.slice (some ⟨g,0,none⟩) L.length L.length,.int .i64 (L.length:Int),.slice (some ⟨vb,0,none⟩) 1 1] w fun e w'=>∃ g' cap',e=.returned (.slice (some ⟨g',0,none⟩) (L.length+1) cap')/\OwnT w' w.heap.size (.slice (some ⟨g',0,none⟩) (L.length+1) cap') (L ++ [f])/\w.grownBy w' none:=by
 obtain⟨i0,hi,hz0,hz1,hz2⟩:=info_parts Tryz.infoTab;have HI:Hid (Tryz.prog.info? 62=some i0):=hi;clear hi;have hsrc:∀ j u,(cellsT f)[j]?=some u->w.cell? ((⟨vb,0,none⟩:Addr).add j)=some u:=fun j u hj=>by
  rw [Addr.add_lit,Nat.zero_add];simp only [World.cell?,hv];simpa using hj
 have HN:Hid (∀ j u,(cellsT f)[j]?=some u->w.cell? ((⟨vb,0,none⟩:Addr).add j)=some u):=hsrc;clear hsrc hv;have hone:∀ u∈cellsT f,u.oneCell'=true:=by simp [cellsT,Value.oneCell']
 have hfl:((L ++ [f]).map cellsT).flatten=(L.map cellsT).flatten ++ cellsT f:=by simp
 have hlo:((L.map cellsT).flatten).length=L.length * 3:=cells_len L;have hol:∀ b,some (⟨g,0,none⟩:Addr)=some b->∀ j u,((L.map cellsT).flatten)[j]?=some u->w.cell? (b.add j)=some u:=fun b e j u hj=>by
  injection e with e;subst e;rw [Addr.add_lit,Nat.zero_add];have hj2:j<L.length * 3:=by rw [←hlo];exact(List.getElem?_eq_some_iff.1 hj).1
  exact(World.ownsRow.cellAt h j hj2).trans hj
 have HOL:Hid (∀ b,some (⟨g,0,none⟩:Addr)=some b->∀ j u,((L.map cellsT).flatten)[j]?=some u->w.cell? (b.add j)=some u):=hol;clear hol h;generalize (L.map cellsT).flatten=xs at hfl hlo HOL;obtain⟨n,hnn⟩:∃ n,L.length=n:=⟨_,rfl⟩;rw [hnn] at hlo hn ⊢;go_enter Tryz.func146,Tryz.ntmps146
 go_wp2_with (at_builtin;refine wpList_append_grows _ rfl _ _ 36 rfl 62 i0 _ 3 64 Tryz.underlying36 HI.out hz0 hz1 hz2 rfl (by omega) (some ⟨g,0,none⟩) n n xs rfl (fun e=>by cases e) hlo HOL.out ⟨vb,0,none⟩ 1 1 (cellsT f) rfl rfl HN.out hone (by omega) (by unfold maxLen;omega) (by omega) ?_;intro v' w1 hown1 hgrow)
 obtain⟨g',cap',rfl⟩:∃ g' cap',v'=.slice (some ⟨g',0,none⟩) (n+1) cap':=by
  rcases hown1.2 with ⟨_,e⟩ | ⟨g',cap',_,e,_⟩
  · omega
  · exact⟨g',cap',e⟩
 go_wp2;go_ret
 refine⟨g',cap',rfl,?_,hgrow⟩;unfold OwnT;rw [hfl,List.length_append,hnn];exact hown1
theorem iInsGrow(L:List Tb)(f:Tb)(i g cap B B2 vb:Nat)(w:World)(hi:i<L.length)(h:OwnT w B (.slice (some ⟨g,0,none⟩) L.length cap) L)(hv:w.heap[vb]?=some (.cells (cellsT f).toArray 62 (0,0)))(hBw:B2<=w.heap.size)(hn:L.length<=1048576)(hroom:cap<L.length+1) :
 Calls Tryz.prog 146 #[.slice (some ⟨g,0,none⟩) L.length cap,.int .i64 (i:Int),.slice (some ⟨vb,0,none⟩) 1 1] w fun e w'=>∃ g' cap',e=.returned (.slice (some ⟨g',0,none⟩) (L.length+1) cap')/\OwnT w' B2 (.slice (some ⟨g',0,none⟩) (L.length+1) cap') (L.take i ++ f :: L.drop i)/\w.grownBy w' (some g):=by
 obtain⟨hxl,h2⟩:=h;rcases h2 with ⟨e,_⟩ | ⟨g',cap',cur,e,hB,hg,hc1,hc2,hs,hcur⟩
 · cases e
 obtain⟨rfl,rfl⟩:g=g'/\cap=cap':=by simpa using e
 obtain⟨n,hnn⟩:∃ n,L.length=n:=⟨_,rfl⟩;obtain⟨C,hC⟩:∃ C,((L.drop i).map cellsT).flatten=C:=⟨_,rfl⟩;obtain⟨X,hX⟩:∃ X,((L.take i).map cellsT).flatten=X:=⟨_,rfl⟩;have hput:=fun w' g cap row=>OwnT.put (w':=w') (B:=B2) (g:=g) (cap:=cap) (L:=L) f i (Nat.le_of_lt hi) (row:=row);have hfrom:=fun t u=>cells_from (t:=t) (u:=u) hcur i (Nat.le_of_lt hi);have hCl:C.length=(n - i) * 3:=by rw [←hC,cells_len,List.length_drop,hnn]
 have hCo:∀ u∈C,u.oneCell'=true:=by rw [←hC];exact cells_one _
 have hXl:X.length=i * 3:=by rw [←hX,cells_len,List.length_take];omega
 have htk:cur.toList.take (i * 3)=X:=by
  have e2:=congrArg (List.take (i * 3)) hcur;rw [List.take_take,Nat.min_eq_left (by omega),cells_split L i,List.take_left' (by rw [cells_len,List.length_take];omega)] at e2;rw [e2,hX]
 rw [hnn,hC,hX] at hput;rw [hC] at hfrom;rw [hnn] at hi hn hc1 hcur hroom ⊢;have hVo:∀ u∈cellsT f,u.oneCell'=true:=by simp [cellsT,Value.oneCell']
 have hVl:(cellsT f).length=1 * 3:=rfl;have hgw:g<w.heap.size:=(Array.getElem?_eq_some_iff.1 hg).1;have hvw:vb<w.heap.size:=(Array.getElem?_eq_some_iff.1 hv).1;obtain⟨i0,hi0,hz0,hz1,hz2⟩:=info_parts Tryz.infoTab;obtain⟨G,W1,ROW,hrz,hg1,hb1,hRs,hRt,hG1,hG2⟩:∃ (G:Nat) (W1:World) (ROW:Array Value),(∀ ty,(Builtin.append_ #[36,3] ty #[.slice (some ⟨g,0,none⟩) i cap,.int .i64 ((n:Int)+1 - (i:Int))]).run Tryz.prog w=.ok (.slice (some ⟨w.heap.size,0,none⟩) (n+1) G) W1)/\W1.heap[w.heap.size]?=some (.cells ROW 62 (0,0))/\Below w.heap.size w W1/\ROW.size=G * 3/\ROW.toList.take (i * 3)=X/\n+1<=G/\G<=maxLen:=by
  have hold:(Builtin.firstCells i0.size i (.slice (some ⟨g,0,none⟩) i cap)).run Tryz.prog w.drew=.ok X.toArray w.drew:=by
   rw [hz1];exact run_firstCells_some w.drew 3 i ⟨g,0,none⟩ i cap X hXl (fun j u hj=>by
    rw [Addr.add_lit,Nat.zero_add];show w.cell? _=_
    simp only [World.cell?,hg]
    rw [←htk,List.getElem?_take] at hj;split at hj
    · simpa using hj
    · cases hj)
  have hr:=fun ty=>Lib.run_append_grow_zeros w 36 3 ty 62 i0 _ .i64 .i64 Tryz.underlying36 Tryz.underlying3 hi0 hz0 (some ⟨g,0,none⟩) i cap X hold (n+1 - i) (by omega) (by omega) (by omega) (by omega) (by rw [hz2];omega) (by rw [hz2,show i+(n+1 - i)=n+1 by omega];exact growslice_fits hroom (by omega));rw [show i+(n+1 - i)=n+1 by omega] at hr;have hge:=grownCap_ge w (n+1) cap 62;have hle:=grownCap_le_maxLen w (n+1) cap 62 (by unfold maxLen;omega);obtain⟨G,hG⟩:∃ G,grownCap w (n+1) cap 62=G:=⟨_,rfl⟩;rw [hG] at hr hge hle;rw [show ((n+1 - i:Nat):Int)=(n:Int)+1 - (i:Int) by omega] at hr;refine⟨G,_,_,hr,heap_alloc_new w.drew _,bstep (bdrew _) (bal _ _),?_,?_,hge,hle⟩
  ·
   simp only [Array.size_append,size_zeroCells,List.size_toArray,hXl,show (Value.agg #[.string ByteArray.empty,.slice none 0 0,.slice none 0 0]).cells.size=3 from rfl]
   omega
  · rw [Array.append_assoc,Array.toList_append,List.take_append_of_le_length (by simp [hXl]),List.toList_toArray,List.take_of_length_le (by omega)]
 have hrz':Hid (∀ ty,(Builtin.append_ #[36,3] ty #[.slice (some ⟨g,0,none⟩) i cap,.int .i64 ((n:Int)+1 - (i:Int))]).run Tryz.prog w=.ok (.slice (some ⟨w.heap.size,0,none⟩) (n+1) G) W1):=hrz;obtain⟨N,hN⟩:∃ N,w.heap.size=N:=⟨_,rfl⟩;rw [hN] at hrz' hg1 hb1 hgw hvw hBw;clear hrz;have hRl:ROW.toList.length=G * 3:=by simpa using hRs
 obtain⟨W2,hcpA,hg2,hb2⟩:∃ W2,(∀ ty dc,(Builtin.copy_ #[36,36] ty #[.slice (some ⟨N,i * 3,none⟩) (n+1 - i) dc,.slice (some ⟨vb,0,none⟩) 1 1]).run Tryz.prog W1=.ok (goInt (1:Nat)) W2)/\W2.heap[N]?=some (.cells (splice ROW.toList (i * 3) (cellsT f)).toArray 62 (0,0))/\Below N w W2:=
  ⟨_,fun ty dc=>run_copy3 W1 ty N (i * 3) _ dc ⟨vb,0,none⟩ 1 1 _ (cellsT f) 1 (by simp only [Nat.min_def];split <;> omega) hg1 hVl (fun j u hj=>by
   rw [Addr.add_lit,Nat.zero_add];simp only [World.cell?,hb1.block vb hvw,hv]
   simpa using hj) (by rw [hVl,hRs];omega) hVo,setRow_heap _ N _ _ _ _ hg1,below_setRow hb1 (Nat.le_refl _) _⟩
 have hl2:(splice ROW.toList (i * 3) (cellsT f)).length=G * 3:=by rw [length_splice _ _ _ (by rw [hVl,hRl];omega),hRl]
 obtain⟨W3,hcpB,HO,HG⟩:∃ W3,(∀ ty dc sc,(Builtin.copy_ #[36,36] ty #[.slice (some ⟨N,(i+1) * 3,none⟩) (n+1 - (i+1)) dc,.slice (some ⟨g,i * 3,none⟩) (n - i) sc]).run Tryz.prog W2.drew=.ok (goInt (n - i:Nat)) W3)/\Hid (OwnT W3 B2 (.slice (some ⟨N,0,none⟩) (n+1) G) (L.take i ++ f :: L.drop i))/\Hid (w.grownBy W3 (some g)):=by
  refine⟨_,fun ty dc sc=>run_copy3 W2.drew ty N ((i+1) * 3) _ dc ⟨g,i * 3,none⟩ _ sc _ C (n - i) (by simp only [Nat.min_def];split <;> omega) hg2 hCl (fun j u hj=>by
   rw [Addr.add_lit];show W2.cell? _=_
   simp only [World.cell?,hb2.block g hgw,hg]
   simpa using hfrom j u hj) (by rw [hCl,List.size_toArray,hl2];omega) hCo,hput _ N G _ (setRow_heap W2.drew N _ _ _ _ hg2) hBw hG1 hG2 ?_ ?_,?_⟩
  · rw [List.size_toArray,length_splice _ _ _ (by rw [hCl,List.toList_toArray,hl2];omega),List.toList_toArray,hl2]
  · have e1:=splice_take1 (splice ROW.toList (i * 3) (cellsT f)) C ((i+1) * 3) (by rw [hl2];omega);have e2:=splice_take1 ROW.toList (cellsT f) (i * 3) (by rw [hRl];omega);rw [hVl,show i * 3+1 * 3=(i+1) * 3 by omega,hRt] at e2;rw [e2,hCl,show (i+1) * 3+(n - i) * 3=(n+1) * 3 by omega,List.append_assoc] at e1;simpa using e1
  · have h3:=below_setRow (hb2.trans ((bdrew W2).mono (by have:=hb2.size;omega))) (Nat.le_refl N) (splice (splice ROW.toList (i * 3) (cellsT f)).toArray.toList ((i+1) * 3) C).toArray;exact⟨h3.os,h3.tape,h3.output,h3.size,fun k hk _=>h3.block k (by omega)⟩
 clear hput hfrom hCl hCo hXl htk hxl hg hs hcur hVo hVl e hv hC hX hg1 hg2 hb1 hb2 hRs hRl hRt hl2 hi0 hz0 hz1 hz2 hN;have a1:¬(i:Int)=(n:Int):=by omega
 have a2:¬cap=i:=by omega
 have a3:¬G=i+1:=by omega
 have a3':¬G=i:=by omega
 have a4:(cap:Int)<(n:Int)+1:=by omega
 have a5:IntKind.i64.wrap ((i:Int)+1)=(i:Int)+1:=by rw [IntKind.wrap_i64];omega
 have a6:(i:Int)<=(n:Int)+1:=by omega
 have a7:i<=n:=by omega
 have a8:IntKind.i64.wrap ((n:Int)+1)=(n:Int)+1:=by rw [IntKind.wrap_i64];omega
 have a9:((i:Int)+1).toNat=i+1:=by omega
 have a10:(0:Int)<=(i:Int)+1:=by omega
 have a12:i<=cap:=by omega
 have a13:IntKind.i64.wrap ((n:Int)+1 - (i:Int))=(n:Int)+1 - (i:Int):=by rw [IntKind.wrap_i64];omega
 have a14:G<=9223372036854775807:=by unfold maxLen at hG2;omega
 go_enter Tryz.func146,Tryz.ntmps146
 go_wp2_with (first
  | (at_builtin;refine Lib.wpList_append_run _ rfl _ _ _ _ rfl _ _ rfl rfl _ _ (hrz'.out _) ?_)
  | (at_builtin;refine wpList_copy_run _ rfl _ _ 36 36 rfl _ _ rfl rfl (hcpA _ _) ?_))
 go_region_law (refine step_run_copy rfl _ _ 36 36 rfl _ _ (by simp [Act.eval,Act.put]) (by simp [Act.eval,Act.put]) (hcpB _ (G - (i+1)) (cap - i)) ?_)
 go_wp2;go_ret
 exact⟨N,G,rfl,HO.out,HG.out⟩
theorem iInsT(L:List Tb)(f:Tb)(i g B vb:Nat)(w:World)(hi:i<=L.length)(h:OwnT w B (.slice (some ⟨g,0,none⟩) L.length L.length) L)(hv:w.heap[vb]?=some (.cells (cellsT f).toArray 62 (0,0)))(hn:L.length<=1048576) :
 Calls Tryz.prog 146 #[.slice (some ⟨g,0,none⟩) L.length L.length,.int .i64 (i:Int),.slice (some ⟨vb,0,none⟩) 1 1] w fun e w'=>∃ g' cap',e=.returned (.slice (some ⟨g',0,none⟩) (L.length+1) cap')/\OwnT w' w.heap.size (.slice (some ⟨g',0,none⟩) (L.length+1) cap') (L.take i ++ f :: L.drop i)/\w.grownBy w' (some g):=by
 by_cases e:i=L.length
 · subst e;refine(iInsEnd L f g B vb w h hv hn).mono ?_;rintro e w' ⟨g',cap',h1,h2,h3⟩;refine⟨g',cap',h1,?_,⟨h3.os,h3.tape,h3.output,h3.size,fun k hk _=>h3.block k hk (by simp)⟩⟩;rw [List.take_length,List.drop_length];exact h2
 · exact iInsGrow L f i g L.length B w.heap.size vb w (by omega) h hv (Nat.le_refl _) hn (by omega)
end Go.Proofs.YtgeiamgeclbiaaaGreatDoor
namespace Go.Proofs.YtgeiamgeclbiaaaGreatDoor
open Go.RowKit Go.Maps Go.WideMaps
theorem tlL_succ(T:Nat->Td)(n:Nat):tlL T (n+1)=tlL T n ++ [T n]:=by unfold tlL;rw [List.range_succ,List.map_append];rfl
theorem tlL_drop(T:Nat->Td){i n:Nat}(h:i<=n):(tlL T (n+1)).drop i=(tlL T n).drop i ++ [T n]:=by
 rw [tlL_succ,List.drop_append_of_le_length (by rw [tlL_len];exact h)]
theorem tlL_take(T:Nat->Td){i n:Nat}(h:i<=n):(tlL T n).take i=tlL T i:=by
 unfold tlL;rw [←List.map_take,List.take_range,Nat.min_eq_left h]
theorem beq_no{a b:ByteArray}(h:a≠b):(a.toList == b.toList)=false:=by
 rw [beq_eq_false_iff_ne];exact fun e=>h (bytes_inj2 e)
theorem less_anti{a b:List UInt8}(h:Op.bytesLess a b=true):Op.bytesLess b a=false:=by
 rcases e:Op.bytesLess b a with _ | _
 · rfl
 · have z:=less_trans _ _ _ h e;rw [less_irr2] at z;cases z
theorem wtS_low{T:Nat->Td}{d:Td}{i:Nat}(h:∀ k,k<i->Op.bytesLess (T k).s.toList d.s.toList=true):∀ k,k<=i->wtS T d k=(tlL T k,false):=by
 intro k;induction k with
 | zero=>intro _;rfl
 | succ k ih=>
  intro hk;have hl:=h k (by omega);have hne:(T k).s≠d.s:=fun e=>by rw [e,less_irr2] at hl;cases hl
  have hle:leS d.s (T k).s=false:=by
   unfold leS;rw [less_anti hl,beq_no (Ne.symm hne)];rfl
  rw [wtS,ih (by omega),hle,beq_no hne,tlL_succ];simp [opt]
theorem wtL_ins{T:Nat->Td}{d:Td}{n i:Nat}(h:LoB T n d.s i)(hne:∀ k,k<n->(T k).s≠d.s):wtL T d n=(tlL T n).take i ++ d :: (tlL T n).drop i:=by
 obtain⟨hi,h1,h2⟩:=h;have hup:∀ k,i<=k->k<n->leS d.s (T k).s=true:=fun k hk hkn=>by
  have z:=h2 k hk hkn;unfold leS;have:=less_tot (T k).s.toList d.s.toList z (fun e=>hne k hkn (bytes_inj2 e));rw [this];rfl
 have key:∀ m,i<=m->m<=n->wtL T d m=(tlL T m).take i ++ d :: (tlL T m).drop i/\(i<m->(wtS T d m).2=true):=by
  intro m;induction m with
  | zero=>
   intro h0 _;obtain rfl:i=0:=by omega
   exact⟨rfl,fun h=>by omega⟩
  | succ m ih=>
   intro hm hn;by_cases e:i=m+1
   · subst e;refine⟨?_,fun h=>by omega⟩;unfold wtL;rw [wtS_low h1 _ (Nat.le_refl _),List.take_of_length_le (by rw [tlL_len];exact Nat.le_refl _),List.drop_of_length_le (by rw [tlL_len];exact Nat.le_refl _)];simp [opt]
   ·
    obtain⟨hA,hB⟩:=ih (by omega) (by omega);have hle:=hup m (by omega) (by omega);have hnq:=beq_no (hne m (by omega));refine⟨?_,fun _=>by rw [wtS,hle];simp⟩;rw [tlL_drop T (by omega),tlL_take T (by omega)];rw [tlL_take T (by omega)] at hA;have hq:(wtS T d (m+1))=((wtL T d m) ++ [T m],true):=by
     rw [wtS,hle,hnq];unfold wtL;simp [opt]
    unfold wtL;rw [hq,hA];simp [opt]
 exact(key n hi (Nat.le_refl _)).1
theorem wtL_set{T:Nat->Td}{d:Td}{n j:Nat}(hj:j<n)(he:(T j).s=d.s)(hlt:∀ k j,k<n->j<k->Op.bytesLess (T j).s.toList (T k).s.toList=true):wtL T d n=(tlL T n).take j ++ d :: (tlL T n).drop (j+1):=by
 have h1:∀ k,k<j->Op.bytesLess (T k).s.toList d.s.toList=true:=fun k hk=>by rw [←he];exact hlt j k hj hk
 have key:∀ m,j+1<=m->m<=n->wtS T d m=(tlL T j ++ d :: (tlL T m).drop (j+1),true):=by
  intro m;induction m with
  | zero=>intro h;omega
  | succ m ih=>
   intro hm hn;by_cases e:j=m
   ·
    subst e;have hle:leS d.s (T j).s=true:=by unfold leS;rw [he];simp
    rw [wtS,wtS_low h1 _ (Nat.le_refl _),hle,he,List.drop_of_length_le (by rw [tlL_len];exact Nat.le_refl _)];simp [opt]
   ·
    have hl:=hlt m j (by omega) (by omega);rw [he] at hl;have hne:(T m).s≠d.s:=fun e=>by rw [e,less_irr2] at hl;cases hl
    rw [wtS,ih (by omega) (by omega),beq_no hne,tlL_drop T (by omega)];simp [opt]
 unfold wtL;rw [key n (by omega) (Nat.le_refl _),tlL_take T (by omega)];simp [opt]
def DbIn(lo:Nat)(w:World)(g:Nat)(A:List Tb):Prop:=DbAt w g A/\∀ b∈g :: A.flatMap Tb.bl,lo<=b/\b<w.heap.size
theorem DbIn.allX{lo g x:Nat}{w w':World}{A:List Tb}(h:DbIn lo w g A)(k:BlkX x w w')(hx:x<lo∨w.heap.size<=x):DbIn lo w' g A:=by
 obtain⟨⟨⟨cur,h1,h2,h3⟩,h4,h5⟩,h6⟩:=h;have hne:∀ b∈g :: A.flatMap Tb.bl,b≠x:=fun b hb=>by have:=h6 b hb;omega
 refine⟨⟨⟨cur,k.2 _ _ _ _ (hne g List.mem_cons_self) h1,h2,h3⟩,fun t ht=>(h4 t ht).allX k (fun hm=>?_),h5⟩,fun b hb=>⟨(h6 b hb).1,Nat.lt_of_lt_of_le (h6 b hb).2 k.1⟩⟩;exact hne x (List.mem_cons_of_mem _ (List.mem_flatMap.2 ⟨t,ht,hm⟩)) rfl
theorem DbIn.later{lo g:Nat}{w w':World}{A:List Tb}(h:DbIn lo w g A)(hb:Below w.heap.size w w'):DbIn lo w' g A:=h.allX (x:=w.heap.size) (BlkX.of (BlkC.below hb)) (Or.inr (Nat.le_refl _))
theorem TbAt.ol{w:World}{t:Tb}(h:TbAt w t){d:Td}(ho:TbOf t d)(hsm:Sm3 d):OL w t.ar d.r d.m d.R:=fun k hk=>by
 have hl:t.L.length=d.r:=by have:=congrArg List.length ho.L;simpa using this
 rcases h.row with h0 | ⟨b,cur,e,hb,hc⟩
 · omega
 ·
  have hx:(t.L.getD k o0).x=(d.m k,d.R k):=by
   have z:=congrArg (fun l=>l[k]?) ho.L;simp only [List.getElem?_map,List.getElem?_range hk,Option.map_some] at z
   have e2:t.L[k]?=some (t.L.getD k o0):=by simp [hl,hk]
   rw [e2] at z;simpa using z
  have hr:=h.ros _ (getD_memR (by omega:k<t.L.length));have hv:=hc k (by omega);unfold Ro.v at hv;refine⟨b,0,some ⟨(t.L.getD k o0).b,0,none⟩,(t.L.getD k o0).c,by unfold Tb.ar;rw [e];rfl,?_,?_,(hsm.ro.2 k hk).1⟩
  ·
   rw [Nat.zero_add,show d.m k=(t.L.getD k o0).x.1 from by rw [hx]]
   exact(cell_of_row _ _ k _ _ _ hb).trans hv
  · have z:=hr.2;rw [hx] at z;exact z
theorem DbAt.tl{w:World}{g n:Nat}{A:List Tb}{T:Nat->Td}(h:DbAt w g A)(hl:A.length=n)(ho:∀ i,i<n->TbOf (A.getD i b0) (T i))(hsm:∀ i,i<n->Sm3 (T i)):TL w (some ⟨g,0,none⟩) n T:=fun k hk=>by
 obtain⟨⟨cur,h1,h2,h3⟩,h4,-⟩:=h;obtain⟨c0,c1,c2⟩:=h3 k (by omega);have ht:=h4 _ (getD_mem (y:=b0) (by omega:k<A.length));have hto:=ho k hk;have hle:(A.getD k b0).L.length=(T k).r:=by have:=congrArg List.length hto.L;simpa using this
 refine⟨g,0,some ⟨(A.getD k b0).bc,0,none⟩,(A.getD k b0).cc,(A.getD k b0).ar,(A.getD k b0).cr,rfl,?_,?_,?_,?_,ht.ol hto (hsm k hk),hsm k hk⟩
 · rw [Nat.zero_add,←hto.s];exact(cell_of_row _ _ _ _ _ _ h1).trans c0
 · rw [Nat.zero_add,←hto.n];exact(cell_of_row _ _ _ _ _ _ h1).trans c1
 · rw [Nat.zero_add,←hle];exact(cell_of_row _ _ _ _ _ _ h1).trans c2
 · rw [←hto.n,←hto.C];exact ht.cl
theorem Sm3.of{w:World}{a:Option Addr}{n:Nat}{T:Nat->Td}(h:TL w a n T):∀ i,i<n->Sm3 (T i):=fun i hi=>by
 obtain⟨_,_,_,_,_,_,-,-,-,-,-,-,hs⟩:=h i hi;exact hs
def AnP(lo:Nat)(w:World)(Ad:List Td)(cd:Int)(e:Ending)(w':World):Prop:=∃ g c B,e=.returned (.tuple #[.agg #[.slice (some ⟨g,0,none⟩) Ad.length c],.int .i64 cd])/\DbIn lo w' g B/\B.length=Ad.length/\(∀ i,i<Ad.length->TbOf (B.getD i b0) (Ad.getD i t0))/\Below lo w w'
theorem flat_get:∀ (A:List Tb) (k:Nat),k<A.length->∀ e,e<3->((A.map cellsT).flatten)[k * 3+e]?=(cellsT (A.getD k b0))[e]?
 | [],k,h,_,_=>by simp at h
 | t :: A,0,_,e,he=>by
  rw [List.map_cons,List.flatten_cons,List.getElem?_append_left (by simp [cellsT];omega)];simp
 | t :: A,k+1,h,e,he=>by
  rw [List.map_cons,List.flatten_cons,List.getElem?_append_right (by simp [cellsT];omega)];have z:=flat_get A k (by simpa using h) e he;rw [show (k+1) * 3+e - (cellsT t).length=k * 3+e from by simp [cellsT];omega]
  simpa using z
theorem DbAt.own{w:World}{lo g n:Nat}{A:List Tb}(h:DbAt w g A)(hl:A.length=n)(hlo:lo<=g)(hz:∀ cur,w.heap[g]?=some (.cells cur 62 (0,0))->cur.size=n * 3)(hn:n<=1048576):OwnT w lo (.slice (some ⟨g,0,none⟩) A.length n) A:=by
 obtain⟨⟨cur,h1,h2,h3⟩,-,-⟩:=h;have hcz:=hz cur h1;refine⟨cells_len A,Or.inr ⟨g,n,cur,rfl,hlo,h1,by omega,by unfold maxLen;omega,hcz,?_⟩⟩;rw [List.take_of_length_le (by simp [hcz];omega)];apply List.ext_getElem?
 intro q;by_cases hq:q<A.length * 3
 ·
  have hk:q / 3<A.length:=by omega
  obtain⟨c0,c1,c2⟩:=h3 (q / 3) hk;have hfl:((A.map cellsT).flatten)[q / 3 * 3+q % 3]?=(cellsT (A.getD (q / 3) b0))[q % 3]?:=flat_get A (q / 3) hk (q % 3) (by omega);rw [show q / 3 * 3+q % 3=q from by omega] at hfl
  rw [hfl,Array.getElem?_toList];rcases (by omega:q % 3=0∨q % 3=1∨q % 3=2) with e | e | e
  ·
   rw [e];rw [show q / 3 * 3=q from by omega] at c0
   exact c0
  ·
   rw [e];rw [show q / 3 * 3+1=q from by omega] at c1
   exact c1
  ·
   rw [e];rw [show q / 3 * 3+2=q from by omega] at c2
   exact c2
 · rw [List.getElem?_eq_none (by simp [hcz];omega),List.getElem?_eq_none (by rw [cells_len];omega)]
end Go.Proofs.YtgeiamgeclbiaaaGreatDoor
