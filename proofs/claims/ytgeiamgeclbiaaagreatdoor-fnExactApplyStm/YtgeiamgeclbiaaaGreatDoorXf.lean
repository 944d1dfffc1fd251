import Derived.Test.YtgeiamgeclbiaaaGreatDoorXc
import Derived.Test.YtgeiamgeclbiaaaGreatDoorWa
import Derived.Test.YtgeiamgeclbiaaaGreatDoorShelk
namespace Go.Proofs.YtgeiamgeclbiaaaGreatDoor
open Go.RowKit Go.Maps Go.WideMaps Go.Sort Go.Shelf
theorem sortsI(m:Nat):AnyZI.SortsIn Tryz.prog Tryz.sortedI_ren Fence.wide m:=
 ⟨fun blk off cap ss W hH hblk hsz=>callsIn_wide.2 (AnyM.slices_Sort_int Tryz.sortI blk off cap ss W hH hblk hsz),
  fun p cap W=>callsIn_wide.2 (AnyM.slices_Sort_int_none Tryz.sortI p cap W)⟩
theorem keysAtI(mb:Option Nat)(W:World):Calls Tryz.prog 188 #[.map mb] W fun e w'=>e=.returned (.func (.func 196) #[] #[.pointer (some ⟨W.heap.size,0,none⟩)])/\w'=W.alloc (.cells #[.map mb] 208):=
 (callsIn_wide (n:=5)).1 (AnyZI.keys_in Tryz.keysI Fence.wide 5 trivial rfl mb W)
theorem sortedAtI(Bm b nn:Nat)(D0:Dm)(w:World)(hBm:Bm<w.heap.size)(hm:w.cell? ⟨Bm,0,none⟩=some (.map (some b)))(hown:w.ownsMap Tryz.prog 3 rowE b nn D0)(hmax:Maps.size D0<=1048576) :
 Calls Tryz.prog 187 #[.func (.func 196) #[] #[.pointer (some ⟨Bm,0,none⟩)]] w fun e w'=>∃ (v:Value) (ss:List (Int)),e=.returned v/\ss.Perm (intKeys D0) /\
  w'.ownsRow w.heap.size 3 1 v ss.length ((ss.mergeSort (fun x y=>decide (x<=y))).map encZ)/\(v=.slice none 0 0↔ss=[])/\Below w.heap.size w w':=by
 refine(callsIn_wide (n:=5)).1 ?_;have hseq:SeqGives Fence.wide 2 Tryz.prog 196 #[.pointer (some ⟨Bm,0,none⟩)] encZ (fun ss=>ss.Perm (intKeys D0)) (Maps.size D0) w:=
  AnyZI.keys_gives (ρ:=Tryz.keysI_ren) { Tryz.keysI with } Fence.wide _ trivial rfl (by omega) Bm b nn D0 _ hBm hm hown
 exact AnyZI.sorted_in Tryz.sortedI Fence.wide 5 trivial trivial trivial trivial rfl (by omega) (sortsI _) (enters_of Tryz.func195 (by kernel_rfl) rfl) 196 #[.pointer (some ⟨Bm,0,none⟩)] trivial (enters_of Tryz.func196 (by kernel_rfl) rfl) _ _ (by unfold maxLen;omega) (by omega) _ hseq
theorem sortsS(m:Nat):AnyZ.SortsIn Tryz.prog Tryz.sortedS_ren Fence.wide m:=
 ⟨fun blk off cap ss W hH hblk hsz=>callsIn_wide.2 (AnyM.slices_Sort_string Tryz.sortS blk off cap ss W hH hblk hsz),
  fun p cap W=>callsIn_wide.2 (AnyM.slices_Sort_string_none Tryz.sortS p cap W)⟩
theorem keysAtS(mb:Option Nat)(W:World):Calls Tryz.prog 190 #[.map mb] W fun e w'=>e=.returned (.func (.func 199) #[] #[.pointer (some ⟨W.heap.size,0,none⟩)])/\w'=W.alloc (.cells #[.map mb] 215):=
 (callsIn_wide (n:=5)).1 (AnyZ.keys_in Tryz.keysS Fence.wide 5 trivial rfl mb W)
theorem sortedAtS(Bm b nn:Nat)(D0:Dm)(w:World)(hBm:Bm<w.heap.size)(hm:w.cell? ⟨Bm,0,none⟩=some (.map (some b)))(hown:w.ownsMap Tryz.prog 9 rowE b nn D0)(hmax:Maps.size D0<=1048576) :
 Calls Tryz.prog 189 #[.func (.func 199) #[] #[.pointer (some ⟨Bm,0,none⟩)]] w fun e w'=>∃ (v:Value) (ss:List (List UInt8)),e=.returned v/\ss.Perm (strKeys D0) /\
  w'.ownsRow w.heap.size 9 1 v ss.length ((ss.mergeSort (fun x y=>decide (x<=y))).map encStr)/\(v=.slice none 0 0↔ss=[])/\Below w.heap.size w w':=by
 refine(callsIn_wide (n:=5)).1 ?_;have hseq:SeqGives Fence.wide 2 Tryz.prog 199 #[.pointer (some ⟨Bm,0,none⟩)] encStr (fun ss=>ss.Perm (strKeys D0)) (Maps.size D0) w:=
  AnyZ.keys_gives (ρ:=Tryz.keysS_ren) { Tryz.keysS with } Fence.wide _ trivial rfl (by omega) Bm b nn D0 _ hBm hm hown
 exact AnyZ.sorted_in Tryz.sortedS Fence.wide 5 trivial trivial trivial trivial rfl (by omega) (sortsS _) (enters_of Tryz.func198 (by kernel_rfl) rfl) 199 #[.pointer (some ⟨Bm,0,none⟩)] trivial (enters_of Tryz.func199 (by kernel_rfl) rfl) _ _ (by unfold maxLen;omega) (by omega) _ hseq
end Go.Proofs.YtgeiamgeclbiaaaGreatDoor
namespace Go.Proofs.YtgeiamgeclbiaaaGreatDoor
open Go.RowKit Go.Maps Go.WideMaps
set_option maxRecDepth 20000
set_option maxHeartbeats 8000000
def leRI(p q:Ro):Bool:=decide ((p.x.2 0).m<=(q.x.2 0).m)
def leRS(p q:Ro):Bool:=decide ((p.x.2 0).s.data.toList<=(q.x.2 0).s.data.toList)
theorem sortKI{D:Dm}{L:List Ro}(h:MpC D (mcL kI L)){ss:List Int}(hp:ss.Perm (intKeys D)):(L.mergeSort leRI).map (fun r=>(r.x.2 0).m)=ss.mergeSort (fun x y=>decide (x<=y)):=by
 obtain⟨es,rfl,hpe,-⟩:=h;have h1:(intKeys (.map es:Dm)).Perm (L.map (fun r=>(r.x.2 0).m)):=by
  have:=hpe.map (fun p=>Go.intOf p.1);simpa [mcL,List.map_map,Function.comp_def,kI,Go.intOf,intKeys] using this
 have h2:=mergeSort_of_perm_i (hp.trans h1);have h3:((L.mergeSort leRI).map (fun r=>(r.x.2 0).m)).Perm (L.map (fun r=>(r.x.2 0).m)):=(List.mergeSort_perm L leRI).map _;have h4:=mergeSort_of_perm_i h3;rw [List.mergeSort_of_pairwise] at h4
 · rw [h4];exact h2.symm
 ·
  rw [List.pairwise_map];refine List.Pairwise.imp (R:=fun a b=>leRI a b=true) (fun h=>h) (List.pairwise_mergeSort (fun a b c h1 h2=>?_) (fun a b=>?_) L)
  · simp only [leRI,decide_eq_true_eq] at *;exact Int.le_trans h1 h2
  · simp only [leRI,Bool.or_eq_true,decide_eq_true_eq];exact Int.le_total _ _
theorem sortKS{D:Dm}{L:List Ro}(h:MpC D (mcL kS L)){ss:List (List UInt8)}(hp:ss.Perm (strKeys D)):(L.mergeSort leRS).map (fun r=>(r.x.2 0).s.data.toList)=ss.mergeSort (fun x y=>decide (x<=y)):=by
 obtain⟨es,rfl,hpe,-⟩:=h;have h1:(strKeys (.map es:Dm)).Perm (L.map (fun r=>(r.x.2 0).s.data.toList)):=by
  have:=hpe.map (fun p=>strOf p.1);simpa [mcL,List.map_map,Function.comp_def,kS,strOf,strKeys] using this
 have h2:=mergeSort_of_perm (hp.trans h1);have h3:((L.mergeSort leRS).map (fun r=>(r.x.2 0).s.data.toList)).Perm (L.map (fun r=>(r.x.2 0).s.data.toList)):=(List.mergeSort_perm L leRS).map _;have h4:=mergeSort_of_perm h3;rw [List.mergeSort_of_pairwise] at h4
 · rw [h4];exact h2.symm
 ·
  rw [List.pairwise_map];refine List.Pairwise.imp (R:=fun a b=>leRS a b=true) (fun h=>h) (List.pairwise_mergeSort (fun a b c h1 h2=>?_) (fun a b=>?_) L)
  · simp only [leRS,decide_eq_true_eq] at *;exact List.le_trans h1 h2
  · simp only [leRS,Bool.or_eq_true,decide_eq_true_eq];exact List.le_total _ _
theorem take_v{S:List Ro}{k:Nat}(h:k<S.length):((S.take (k+1)).map Ro.v)=(S.take k).map Ro.v ++ [(S.getD k o0).v]:=by
 rw [List.take_succ_eq_append_getElem h,List.map_append];have e:S.getD k o0=S[k]:=by simp [h]
 rw [e];rfl
theorem lookup_row{P:Program}(w:World){ops:Array Oper}{rest:List Oper}{o:Oper}{a:Act}{Q:Exit->Act->World->Prop}(hg:o.guard=none)(m x:Operand)(t:TypeId)(hop:o.op=Op.lookup t m x false)
 (k e:TypeId) (K:Keyed P k) (ht:P.underlying t=some (.map k e)) {z:Value} (hz:(zeroValue e).run P w=.ok z w) (zd:Dm) (zp:List MemPlace) (hzd:rowE z=some (zd,zp)) (b n:Nat) (D:Dm)
 (hm:a.eval m=.map (some b)) (hown:w.ownsMap P k rowE b n D) (key:Value) (kl:Lit) (hx:a.eval x=key) (hkey:keyOf P k key=some kl) (r:Ro) (hr:D.atKey kl zd=r.d)
 (hK:wpList P ops Q rest (a.put o.dst (.slice (some ⟨r.b,0,none⟩) r.x.1 r.c)) w):wpList P ops Q (o :: rest) a w:=by
 refine wpList_plain hg fun K' hK'=>?_;obtain⟨v,ps,hrun,hv⟩:=hown.lookup K ht hz hzd hkey;rw [hr] at hv;obtain rfl:=rowE_inv hv;unfold Oper.wp;simp [execOp,hop,hm,hx,hrun,Result.andThen]
 exact hK' _ _ hK
theorem cellG{w w':World}{a:Addr}{v:Value}{r:Option Nat}(h:w.cell? a=some v)(hg:w.grownBy w' r)(hne:some a.block≠r):w'.cell? a=some v:=(World.cell?_of_block (hg.block _ (World.block_lt_of_cell? w _ h) hne)).trans h
theorem own_list{w:World}{G e n:Nat}{v:Value}{xs:List Value}(h:w.ownsRow G e 1 v n xs):∃ a c,v=.slice a n c/\∀ j,j<n->∃ g,a=some ⟨g,0,none⟩/\g<w.heap.size/\G<=g/\w.cell? ⟨g,j,none⟩=xs[j]?:=by
 rcases own_shape h with ⟨rfl,rfl⟩ | ⟨g,cap,rfl⟩
 · exact⟨none,0,rfl,fun j hj=>by omega⟩
 · exact⟨_,cap,rfl,fun j hj=>⟨g,rfl,(h.lt g rfl).2,(h.lt g rfl).1,h.cellAt j (by omega)⟩⟩
theorem keyAtI{S:List Ro}{j:Nat}(h:j<S.length):((S.map (fun r=>(r.x.2 0).m)).map encZ)[j]?=some (.int .i64 ((S.getD j o0).x.2 0).m):=by
 simp [h,encZ]
theorem keyAtS{S:List Ro}{j:Nat}(h:j<S.length):((S.map (fun r=>(r.x.2 0).s.data.toList)).map encStr)[j]?=some (.string ((S.getD j o0).x.2 0).s):=by
 simp [h,encStr]
theorem keys_lenI{D:Dm}{L:List Ro}(h:MpC D (mcL kI L)){ss:List Int}(hp:ss.Perm (intKeys D)):ss.length=L.length:=by
 obtain⟨es,rfl,hpe,-⟩:=h;rw [hp.length_eq];show (es.map _).length=_
 rw [List.length_map,hpe.length_eq,mcL_len]
theorem keys_lenS{D:Dm}{L:List Ro}(h:MpC D (mcL kS L)){ss:List (List UInt8)}(hp:ss.Perm (strKeys D)):ss.length=L.length:=by
 obtain⟨es,rfl,hpe,-⟩:=h;rw [hp.length_eq];show (es.map _).length=_
 rw [List.length_map,hpe.length_eq,mcL_len]
theorem iToldI(mb:Nat)(L:List Ro)(w:World)(hM:KM 3 kI w mb L)(hn:L.length<=1048576)(hK:∀ r∈L,keyOf Tryz.prog 3 (.int .i64 (r.x.2 0).m)=some (kI r.x)) :
 Calls Tryz.prog 175 #[.agg #[.map (some mb),.func (.func 119) #[] #[]]] w fun e w'=>∃ g c,e=.returned (.slice (some ⟨g,0,none⟩) L.length c)/\w'.ownsRow w.heap.size 41 1 (.slice (some ⟨g,0,none⟩) L.length c) L.length ((L.mergeSort leRI).map Ro.v)/\Below w.heap.size w w':=by
 have hml:=hM.lt;obtain⟨D,hD,hMC⟩:=hM;have hsz:Maps.size D=L.length:=by rw [hMC.size,mcL_len]
 obtain⟨jr,hir,hzr0,hzr1,hzr2⟩:=info_parts Tryz.infoRow;have HIr:Hid (Tryz.prog.info? 41=some jr):=hir;clear hir;have hmk:∀ w:World,(Instr.makeSlice 33 (.int .i64 0) (.int .i64 (L.length:Int))).run Tryz.prog w=.ok (.slice (some ⟨w.heap.size,0,none⟩) 0 L.length) (w.alloc (.cells (madeCells #[Value.slice none 0 0] L.length) 41)):=fun w=>by
  have q:=make_cap (t:=33) Tryz.underlying33 Tryz.infoRow L.length hn (by omega) w;rw [Nat.mul_one] at q;exact q
 have hb1:=bal w (.cells #[.map (some mb),.func (.func 119) #[] #[]] 210);have hq1:=heap_alloc_new w (.cells #[.map (some mb),.func (.func 119) #[] #[]] 210);have hs1:(w.alloc (.cells #[.map (some mb),.func (.func 119) #[] #[]] 210)).heap.size=w.heap.size+1:=World.size_alloc _ _;have hb2:=bal (w.alloc (.cells #[.map (some mb),.func (.func 119) #[] #[]] 210)) (.cells (madeCells #[Value.slice none 0 0] L.length) 41);have hs2:((w.alloc (.cells #[.map (some mb),.func (.func 119) #[] #[]] 210)).alloc (.cells (madeCells #[Value.slice none 0 0] L.length) 41)).heap.size=w.heap.size+1+1:=by rw [World.size_alloc,hs1]
 have hO0:((w.alloc (.cells #[.map (some mb),.func (.func 119) #[] #[]] 210)).alloc (.cells (madeCells #[Value.slice none 0 0] L.length) 41)).ownsRow (w.heap.size+1) 41 1 (.slice (some ⟨w.heap.size+1,0,none⟩) 0 L.length) 0 []:=by
  have q:=World.ownsRow_made (base:=w.heap.size+1) (e:=41) (size:=1) (w.alloc (.cells #[.map (some mb),.func (.func 119) #[] #[]] 210)) (madeCells #[Value.slice none 0 0] L.length) L.length (by rw [hs1];exact Nat.le_refl _) (by unfold maxLen;omega) (by rw [Nat.mul_one];exact made_size _ _);rw [hs1] at q;exact q
 obtain⟨m0,m1⟩:=box2 (rowL hq1 hb2);obtain⟨n0_,n1_⟩:=box2 hq1;have hb12:=bstep hb1 hb2;have hq3:=heap_alloc_new ((w.alloc (.cells #[.map (some mb),.func (.func 119) #[] #[]] 210)).alloc (.cells (madeCells #[Value.slice none 0 0] L.length) 41)) (.cells #[.map (some mb)] 208);rw [hs2] at hq3;have hSO:=sortedAtI (w.heap.size+1+1) mb _ D (((w.alloc (.cells #[.map (some mb),.func (.func 119) #[] #[]] 210)).alloc (.cells (madeCells #[Value.slice none 0 0] L.length) 41)).alloc (.cells #[.map (some mb)] 208)) (by rw [World.size_alloc,hs2];omega) (box1 hq3).1 ((hD.alloc _).alloc _ |>.alloc _) (by omega);go_enter Tryz.func175,Tryz.ntmps175
 go_wp2_with (first | (at_len;refine wpList_len_own _ rfl _ 208 rfl 3 41 Tryz.underlying208 rowE mb _ D rfl (hD.alloc _) ?_;rw [hsz]) | (go_at_call 188;refine(keysAtI _ _).mono ?_;rintro e w3 ⟨rfl,rfl⟩) | (go_at_call 187;refine hSO.mono ?_;rintro e w4 ⟨vk,ss,rfl,hpm,hkr,hnil,hb4⟩;rw [keys_lenI hMC hpm,←sortKI hMC hpm] at hkr;obtain⟨ak,ck,rfl,hkc⟩:=own_list hkr;clear hnil hkr) | go_in)
 clear hmk hSO hq3;have hb3:=bal ((w.alloc (.cells #[.map (some mb),.func (.func 119) #[] #[]] 210)).alloc (.cells (madeCells #[Value.slice none 0 0] L.length) 41)) (.cells #[.map (some mb)] 208);have hs3:(((w.alloc (.cells #[.map (some mb),.func (.func 119) #[] #[]] 210)).alloc (.cells (madeCells #[Value.slice none 0 0] L.length) 41)).alloc (.cells #[.map (some mb)] 208)).heap.size=w.heap.size+3:=by rw [World.size_alloc,hs2]
 have hb24:=bstep hb3 hb4;have hs4:=hb4.size;rw [hs3] at hs4;have hq4:=rowL (rowL hq1 hb2) hb24;have hO4:=own_below hO0 hb24;have hb04:=bstep hb12 hb24;have hSl:(L.mergeSort leRI).length=L.length:=List.length_mergeSort L;have hkc4:∀ j,j<L.length->∃ g,ak=some ⟨g,0,none⟩/\w.heap.size+1<g/\w4.cell? ⟨g,j,none⟩=some (.int .i64 (((L.mergeSort leRI).getD j o0).x.2 0).m):=fun j hj=>by
  obtain⟨g,e1,-,h1,h2⟩:=hkc j hj;rw [hs3] at h1;exact⟨g,e1,by omega,h2.trans (keyAtI (by rw [hSl];exact hj))⟩
 have hSm:∀ j,j<L.length->(L.mergeSort leRI).getD j o0∈L:=fun j hj=>(List.mergeSort_perm L leRI).mem_iff.1 (getD_mem (by rw [hSl];exact hj));clear hkc hO0 m0 m1 n0_ n1_ hb1 hb2 hb3 hb12 hq1 hs1 hs2 hs3 hb24 hb4 hpm ss;obtain⟨S,hS⟩:∃ S,L.mergeSort leRI=S:=⟨_,rfl⟩;have HS:Hid (L.mergeSort leRI=S):=hS;rw [hS] at hSl hkc4 hSm;clear hS;go_loopw [3,5,15] (fun v _ i wr=>∃ (k g cap:Nat),k<=L.length/\i=.int .i64 k/\v=.slice (some ⟨g,0,none⟩) k cap/\wr.ownsRow (w.heap.size+1) 41 1 (.slice (some ⟨g,0,none⟩) k cap) k ((S.take k).map Ro.v)/\(∀ j,j<L.length->∃ g2,ak=some ⟨g2,0,none⟩/\g2≠g/\wr.cell? ⟨g2,j,none⟩=some (.int .i64 ((S.getD j o0).x.2 0).m))/\wr.heap[w.heap.size]?=some (.cells #[.map (some mb),.func (.func 119) #[] #[]] 210 (0,0))/\Below w.heap.size w wr/\w.heap.size+1<wr.heap.size) (fun _ _ i _=>L.length - (intOf i).toNat)
 case atStart=>exact⟨0,w.heap.size+1,L.length,by omega,rfl,rfl,hO4,fun j hj=>by obtain⟨g,e1,e2,e3⟩:=hkc4 j hj;exact⟨g,e1,by omega,e3⟩,hq4,hb04,by omega⟩
 case round=>
  obtain⟨k,g,cap,hk,rfl,rfl,hO,hkc,hrow,hb,hsr⟩:=hrel;have hgl:=hO.lt g rfl;obtain⟨m0,m1⟩:=box2 hrow;have HR:Hid (wr.heap[w.heap.size]?=some (.cells #[.map (some mb),.func (.func 119) #[] #[]] 210 (0,0))):=hrow;have HKC:Hid (∀ j,j<L.length->∃ g2,ak=some ⟨g2,0,none⟩/\g2≠g/\wr.cell? ⟨g2,j,none⟩=some (.int .i64 ((S.getD j o0).x.2 0).m)):=hkc;clear hrow hkc;by_cases hlt:k<L.length
  ·
   obtain⟨g2,e2_,hne2,d0⟩:=HKC.out k hlt;have hm:=hSm k hlt;have hkey:=hK _ hm;have hat:=hMC.at (p:=(kI (S.getD k o0).x,(S.getD k o0).d)) (List.mem_map_of_mem (f:=fun r:Ro=>(kI r.x,r.d)) hm) (kI_self _) .nil;dsimp only at hat
   have HT:Hid ((S.take (k+1)).map Ro.v=(S.take k).map Ro.v ++ [(S.getD k o0).v]):=take_v (by rw [hSl];exact hlt);generalize S.getD k o0=R at d0 hm hkey hat HT;have HAT:Hid (D.atKey (kI R.x) .nil=R.d):=hat;clear hat;have hDr:wr.ownsMap Tryz.prog 3 rowE mb L.length D:=by
    obtain⟨es,clock,hx,Ft,hs,hDD⟩:=hD;exact⟨es,clock,(hb.block mb hml).trans hx,Ft,hs,hDD⟩
   have e2':=e2_;subst e2';go_wp2_with (first | (at_lookup;refine lookup_row _ rfl _ _ 208 rfl 3 41 lawI Tryz.underlying208 (zeroR _) .nil [] rowE_nil mb _ D rfl hDr _ _ rfl hkey R HAT.out ?_) | (at_builtin;refine wpList_append_lies _ rfl _ _ _ rfl (w.heap.size+1) 41 jr (.slice none 0 0) 1 24 Tryz.underlying33 HIr.out hzr0 hzr1 hzr2 rfl (by omega) (.slice (some ⟨g,0,none⟩) k cap) k ((S.take k).map Ro.v) rfl (own_below hO (bal _ _)) ⟨wr.heap.size,0,none⟩ 1 1 [.slice (some ⟨R.b,0,none⟩) R.x.1 R.c] rfl rfl (World.news_of_block (heap_alloc_new wr _)) (ones _ rfl) (by omega) (by unfold maxLen;omega) (by omega) (by simp;omega) _ rfl ?_;intro g8 cap8 w8 hO8 hgr8 hat8 hlt8) | go_in)
   have hw1:=bal wr (.cells #[.slice (some ⟨R.b,0,none⟩) R.x.1 R.c] 41);have hne:∀ b,b≠g->some b≠(Value.slice (some ⟨g,0,none⟩) k cap).ownBlock:=fun b hb e=>hb (Option.some.inj e);have hs8:=hgr8.size;rw [World.size_alloc] at hs8;go_roundw
   case rel=>exact⟨k+1,g8,cap8,by omega,by go_num,rfl,by rw [HT.out];exact hO8,fun j hj=>by
    obtain⟨g3,e3,hne3,d3⟩:=HKC.out j hj;have hl3:=World.block_lt_of_cell? _ _ d3;refine⟨g3,e3,?_,cellG (keepB hw1 d3) hgr8 (hne g3 hne3)⟩;rcases hat8 with e | e
    · have:g=g8:=Option.some.inj e;omega
    ·
     rw [World.size_alloc] at e;dsimp only at hl3
     omega,rowR (rowL HR.out hw1) hgr8 (hne _ (by omega)),gBr (bstep hb hw1) hgr8 (fun y hy=>hne _ (by omega)),by omega⟩
   case measure=>simp [intOf];omega
  ·
   obtain rfl:k=L.length:=by omega
   rw [List.take_of_length_le (by omega)] at hO;go_wp2;go_ret
   rw [HS.out];exact⟨g,cap,rfl,ownsRow_base_a hO (Nat.le_succ _),hb⟩
theorem iToldS(mb:Nat)(L:List Ro)(w:World)(hM:KM 9 kS w mb L)(hn:L.length<=1048576)(hK:∀ r∈L,keyOf Tryz.prog 9 (.string (r.x.2 0).s)=some (kS r.x)) :
 Calls Tryz.prog 180 #[.agg #[.map (some mb),.func (.func 121) #[] #[]]] w fun e w'=>∃ g c,e=.returned (.slice (some ⟨g,0,none⟩) L.length c)/\w'.ownsRow w.heap.size 41 1 (.slice (some ⟨g,0,none⟩) L.length c) L.length ((L.mergeSort leRS).map Ro.v)/\Below w.heap.size w w':=by
 have hml:=hM.lt;obtain⟨D,hD,hMC⟩:=hM;have hsz:Maps.size D=L.length:=by rw [hMC.size,mcL_len]
 obtain⟨jr,hir,hzr0,hzr1,hzr2⟩:=info_parts Tryz.infoRow;have HIr:Hid (Tryz.prog.info? 41=some jr):=hir;clear hir;have hmk:∀ w:World,(Instr.makeSlice 33 (.int .i64 0) (.int .i64 (L.length:Int))).run Tryz.prog w=.ok (.slice (some ⟨w.heap.size,0,none⟩) 0 L.length) (w.alloc (.cells (madeCells #[Value.slice none 0 0] L.length) 41)):=fun w=>by
  have q:=make_cap (t:=33) Tryz.underlying33 Tryz.infoRow L.length hn (by omega) w;rw [Nat.mul_one] at q;exact q
 have hb1:=bal w (.cells #[.map (some mb),.func (.func 121) #[] #[]] 217);have hq1:=heap_alloc_new w (.cells #[.map (some mb),.func (.func 121) #[] #[]] 217);have hs1:(w.alloc (.cells #[.map (some mb),.func (.func 121) #[] #[]] 217)).heap.size=w.heap.size+1:=World.size_alloc _ _;have hb2:=bal (w.alloc (.cells #[.map (some mb),.func (.func 121) #[] #[]] 217)) (.cells (madeCells #[Value.slice none 0 0] L.length) 41);have hs2:((w.alloc (.cells #[.map (some mb),.func (.func 121) #[] #[]] 217)).alloc (.cells (madeCells #[Value.slice none 0 0] L.length) 41)).heap.size=w.heap.size+1+1:=by rw [World.size_alloc,hs1]
 have hO0:((w.alloc (.cells #[.map (some mb),.func (.func 121) #[] #[]] 217)).alloc (.cells (madeCells #[Value.slice none 0 0] L.length) 41)).ownsRow (w.heap.size+1) 41 1 (.slice (some ⟨w.heap.size+1,0,none⟩) 0 L.length) 0 []:=by
  have q:=World.ownsRow_made (base:=w.heap.size+1) (e:=41) (size:=1) (w.alloc (.cells #[.map (some mb),.func (.func 121) #[] #[]] 217)) (madeCells #[Value.slice none 0 0] L.length) L.length (by rw [hs1];exact Nat.le_refl _) (by unfold maxLen;omega) (by rw [Nat.mul_one];exact made_size _ _);rw [hs1] at q;exact q
 obtain⟨m0,m1⟩:=box2 (rowL hq1 hb2);obtain⟨n0_,n1_⟩:=box2 hq1;have hb12:=bstep hb1 hb2;have hq3:=heap_alloc_new ((w.alloc (.cells #[.map (some mb),.func (.func 121) #[] #[]] 217)).alloc (.cells (madeCells #[Value.slice none 0 0] L.length) 41)) (.cells #[.map (some mb)] 215);rw [hs2] at hq3;have hSO:=sortedAtS (w.heap.size+1+1) mb _ D (((w.alloc (.cells #[.map (some mb),.func (.func 121) #[] #[]] 217)).alloc (.cells (madeCells #[Value.slice none 0 0] L.length) 41)).alloc (.cells #[.map (some mb)] 215)) (by rw [World.size_alloc,hs2];omega) (box1 hq3).1 ((hD.alloc _).alloc _ |>.alloc _) (by omega);go_enter Tryz.func180,Tryz.ntmps180
 go_wp2_with (first | (at_len;refine wpList_len_own _ rfl _ 215 rfl 9 41 Tryz.underlying215 rowE mb _ D rfl (hD.alloc _) ?_;rw [hsz]) | (go_at_call 190;refine(keysAtS _ _).mono ?_;rintro e w3 ⟨rfl,rfl⟩) | (go_at_call 189;refine hSO.mono ?_;rintro e w4 ⟨vk,ss,rfl,hpm,hkr,hnil,hb4⟩;rw [keys_lenS hMC hpm,←sortKS hMC hpm] at hkr;obtain⟨ak,ck,rfl,hkc⟩:=own_list hkr;clear hnil hkr) | go_in)
 clear hmk hSO hq3;have hb3:=bal ((w.alloc (.cells #[.map (some mb),.func (.func 121) #[] #[]] 217)).alloc (.cells (madeCells #[Value.slice none 0 0] L.length) 41)) (.cells #[.map (some mb)] 215);have hs3:(((w.alloc (.cells #[.map (some mb),.func (.func 121) #[] #[]] 217)).alloc (.cells (madeCells #[Value.slice none 0 0] L.length) 41)).alloc (.cells #[.map (some mb)] 215)).heap.size=w.heap.size+3:=by rw [World.size_alloc,hs2]
 have hb24:=bstep hb3 hb4;have hs4:=hb4.size;rw [hs3] at hs4;have hq4:=rowL (rowL hq1 hb2) hb24;have hO4:=own_below hO0 hb24;have hb04:=bstep hb12 hb24;have hSl:(L.mergeSort leRS).length=L.length:=List.length_mergeSort L;have hkc4:∀ j,j<L.length->∃ g,ak=some ⟨g,0,none⟩/\w.heap.size+1<g/\w4.cell? ⟨g,j,none⟩=some (.string (((L.mergeSort leRS).getD j o0).x.2 0).s):=fun j hj=>by
  obtain⟨g,e1,-,h1,h2⟩:=hkc j hj;rw [hs3] at h1;exact⟨g,e1,by omega,h2.trans (keyAtS (by rw [hSl];exact hj))⟩
 have hSm:∀ j,j<L.length->(L.mergeSort leRS).getD j o0∈L:=fun j hj=>(List.mergeSort_perm L leRS).mem_iff.1 (getD_mem (by rw [hSl];exact hj));clear hkc hO0 m0 m1 n0_ n1_ hb1 hb2 hb3 hb12 hq1 hs1 hs2 hs3 hb24 hb4 hpm ss;obtain⟨S,hS⟩:∃ S,L.mergeSort leRS=S:=⟨_,rfl⟩;have HS:Hid (L.mergeSort leRS=S):=hS;rw [hS] at hSl hkc4 hSm;clear hS;go_loopw [3,5,15] (fun v _ i wr=>∃ (k g cap:Nat),k<=L.length/\i=.int .i64 k/\v=.slice (some ⟨g,0,none⟩) k cap/\wr.ownsRow (w.heap.size+1) 41 1 (.slice (some ⟨g,0,none⟩) k cap) k ((S.take k).map Ro.v)/\(∀ j,j<L.length->∃ g2,ak=some ⟨g2,0,none⟩/\g2≠g/\wr.cell? ⟨g2,j,none⟩=some (.string ((S.getD j o0).x.2 0).s))/\wr.heap[w.heap.size]?=some (.cells #[.map (some mb),.func (.func 121) #[] #[]] 217 (0,0))/\Below w.heap.size w wr/\w.heap.size+1<wr.heap.size) (fun _ _ i _=>L.length - (intOf i).toNat)
 case atStart=>exact⟨0,w.heap.size+1,L.length,by omega,rfl,rfl,hO4,fun j hj=>by obtain⟨g,e1,e2,e3⟩:=hkc4 j hj;exact⟨g,e1,by omega,e3⟩,hq4,hb04,by omega⟩
 case round=>
  obtain⟨k,g,cap,hk,rfl,rfl,hO,hkc,hrow,hb,hsr⟩:=hrel;have hgl:=hO.lt g rfl;obtain⟨m0,m1⟩:=box2 hrow;have HR:Hid (wr.heap[w.heap.size]?=some (.cells #[.map (some mb),.func (.func 121) #[] #[]] 217 (0,0))):=hrow;have HKC:Hid (∀ j,j<L.length->∃ g2,ak=some ⟨g2,0,none⟩/\g2≠g/\wr.cell? ⟨g2,j,none⟩=some (.string ((S.getD j o0).x.2 0).s)):=hkc;clear hrow hkc;by_cases hlt:k<L.length
  ·
   obtain⟨g2,e2_,hne2,d0⟩:=HKC.out k hlt;have hm:=hSm k hlt;have hkey:=hK _ hm;have hat:=hMC.at (p:=(kS (S.getD k o0).x,(S.getD k o0).d)) (List.mem_map_of_mem (f:=fun r:Ro=>(kS r.x,r.d)) hm) (kS_self _) .nil;dsimp only at hat
   have HT:Hid ((S.take (k+1)).map Ro.v=(S.take k).map Ro.v ++ [(S.getD k o0).v]):=take_v (by rw [hSl];exact hlt);generalize S.getD k o0=R at d0 hm hkey hat HT;have HAT:Hid (D.atKey (kS R.x) .nil=R.d):=hat;clear hat;have hDr:wr.ownsMap Tryz.prog 9 rowE mb L.length D:=by
    obtain⟨es,clock,hx,Ft,hs,hDD⟩:=hD;exact⟨es,clock,(hb.block mb hml).trans hx,Ft,hs,hDD⟩
   have e2':=e2_;subst e2';go_wp2_with (first | (at_lookup;refine lookup_row _ rfl _ _ 215 rfl 9 41 lawS Tryz.underlying215 (zeroR _) .nil [] rowE_nil mb _ D rfl hDr _ _ rfl hkey R HAT.out ?_) | (at_builtin;refine wpList_append_lies _ rfl _ _ _ rfl (w.heap.size+1) 41 jr (.slice none 0 0) 1 24 Tryz.underlying33 HIr.out hzr0 hzr1 hzr2 rfl (by omega) (.slice (some ⟨g,0,none⟩) k cap) k ((S.take k).map Ro.v) rfl (own_below hO (bal _ _)) ⟨wr.heap.size,0,none⟩ 1 1 [.slice (some ⟨R.b,0,none⟩) R.x.1 R.c] rfl rfl (World.news_of_block (heap_alloc_new wr _)) (ones _ rfl) (by omega) (by unfold maxLen;omega) (by omega) (by simp;omega) _ rfl ?_;intro g8 cap8 w8 hO8 hgr8 hat8 hlt8) | go_in)
   have hw1:=bal wr (.cells #[.slice (some ⟨R.b,0,none⟩) R.x.1 R.c] 41);have hne:∀ b,b≠g->some b≠(Value.slice (some ⟨g,0,none⟩) k cap).ownBlock:=fun b hb e=>hb (Option.some.inj e);have hs8:=hgr8.size;rw [World.size_alloc] at hs8;go_roundw
   case rel=>exact⟨k+1,g8,cap8,by omega,by go_num,rfl,by rw [HT.out];exact hO8,fun j hj=>by
    obtain⟨g3,e3,hne3,d3⟩:=HKC.out j hj;have hl3:=World.block_lt_of_cell? _ _ d3;refine⟨g3,e3,?_,cellG (keepB hw1 d3) hgr8 (hne g3 hne3)⟩;rcases hat8 with e | e
    · have:g=g8:=Option.some.inj e;omega
    ·
     rw [World.size_alloc] at e;dsimp only at hl3
     omega,rowR (rowL HR.out hw1) hgr8 (hne _ (by omega)),gBr (bstep hb hw1) hgr8 (fun y hy=>hne _ (by omega)),by omega⟩
   case measure=>simp [intOf];omega
  ·
   obtain rfl:k=L.length:=by omega
   rw [List.take_of_length_le (by omega)] at hO;go_wp2;go_ret
   rw [HS.out];exact⟨g,cap,rfl,ownsRow_base_a hO (Nat.le_succ _),hb⟩
set_option maxRecDepth 20000
set_option maxHeartbeats 4000000
theorem iCloneV(a:Option Addr)(n c:Nat)(I:Nat->Itm)(w:World)(h:IL w a n I)(h0:0<n)(hn:n<=1048576) :
 Calls Tryz.prog 109 #[.slice a n c] w fun e w'=>∃ g cap,e=.returned (.slice (some ⟨g,0,none⟩) n cap)/\w'.ownsRow w.heap.size 66 3 (.slice (some ⟨g,0,none⟩) n cap) n (flt (fun k=>v3 (I k)) n)/\Below w.heap.size w w':=by
 obtain⟨ad,rfl⟩:∃ ad,a=some ad:=by
  obtain⟨b,off,e,-⟩:=h 0 h0;exact⟨_,e⟩
 obtain⟨j3,hi3,hz30,hz31,hz32⟩:=info_parts Tryz.infoVal;have HI3:Hid (Tryz.prog.info? 66=some j3):=hi3;clear hi3;have hO0:(w.alloc (.cells #[] 66)).ownsRow w.heap.size 66 3 (.slice (some ⟨w.heap.size,0,none⟩) 0 0) 0 []:=World.ownsRow_made w #[] 0 (Nat.le_refl _) (by unfold maxLen;omega) rfl;have hb1:=bal w (.cells #[] 66);have HNW:Hid (∀ q u,(flt (fun k=>v3 (I k)) n)[q]?=some u->(w.alloc (.cells #[] 66)).cell? (ad.add q)=some u):=(h.later hb1).news;have hl:(flt (fun k=>v3 (I k)) n).length=n * 3:=flt_len (fun _ _=>rfl);have HON:Hid (∀ u∈flt (fun k=>v3 (I k)) n,u.oneCell'=true):=flt_one (fun k _ u hu=>by simp [v3] at hu;rcases hu with rfl | rfl | rfl <;> rfl);generalize flt (fun k=>v3 (I k)) n=xs at HNW hl HON ⊢;have heq:(binOp .eql 41 (.slice (some ad) n c) (.slice none 0 0)).run Tryz.prog w=.ok (.bool false) w:=by kernel_rfl
 go_enter Tryz.func109,Tryz.ntmps109
 go_wp2_with (at_builtin;refine wpList_append_lies _ rfl _ _ _ rfl w.heap.size 66 j3 (.agg #[.int .i64 0,.int .i64 0,.string ByteArray.empty]) 3 32 Tryz.underlying41 HI3.out hz30 hz31 hz32 rfl (by omega) (.slice (some ⟨w.heap.size,0,none⟩) 0 0) 0 [] rfl hO0 ad n c xs rfl hl HNW.out HON.out h0 (by unfold maxLen;omega) (by omega) (by simp) _ rfl ?_;intro g8 cap8 w8 hO8 hgr8 hat8 hlt8;rw [Nat.zero_add,List.nil_append] at hO8;rw [Nat.zero_add])
 go_ret
 exact⟨g8,cap8,rfl,hO8,gB hb1 (r:=w.heap.size) hgr8 (Nat.le_refl _)⟩
theorem iCloneC(a:Option Addr)(n c:Nat)(C:Nat->Clm)(w:World)(h:CL w a n C)(h0:0<n)(hn:n<=1048576) :
 Calls Tryz.prog 110 #[.slice a n c] w fun e w'=>∃ g cap,e=.returned (.slice (some ⟨g,0,none⟩) n cap)/\w'.ownsRow w.heap.size 113 2 (.slice (some ⟨g,0,none⟩) n cap) n (flt (fun k=>c2 (C k)) n)/\Below w.heap.size w w':=by
 obtain⟨ad,rfl⟩:∃ ad,a=some ad:=by
  obtain⟨b,off,e,-⟩:=h 0 h0;exact⟨_,e⟩
 obtain⟨j3,hi3,hz30,hz31,hz32⟩:=info_parts Tryz.infoCol;have HI3:Hid (Tryz.prog.info? 113=some j3):=hi3;clear hi3;have hO0:(w.alloc (.cells #[] 113)).ownsRow w.heap.size 113 2 (.slice (some ⟨w.heap.size,0,none⟩) 0 0) 0 []:=World.ownsRow_made w #[] 0 (Nat.le_refl _) (by unfold maxLen;omega) rfl;have hb1:=bal w (.cells #[] 113);have HNW:Hid (∀ q u,(flt (fun k=>c2 (C k)) n)[q]?=some u->(w.alloc (.cells #[] 113)).cell? (ad.add q)=some u):=(h.later hb1).news;have hl:(flt (fun k=>c2 (C k)) n).length=n * 2:=flt_len (fun _ _=>rfl);have HON:Hid (∀ u∈flt (fun k=>c2 (C k)) n,u.oneCell'=true):=flt_one (fun k _ u hu=>by simp [c2] at hu;rcases hu with rfl | rfl <;> rfl);generalize flt (fun k=>c2 (C k)) n=xs at HNW hl HON ⊢;have heq:(binOp .eql 40 (.slice (some ad) n c) (.slice none 0 0)).run Tryz.prog w=.ok (.bool false) w:=by kernel_rfl
 go_enter Tryz.func110,Tryz.ntmps110
 go_wp2_with (at_builtin;refine wpList_append_lies _ rfl _ _ _ rfl w.heap.size 113 j3 (.agg #[.string ByteArray.empty,.int .i64 0]) 2 24 Tryz.underlying40 HI3.out hz30 hz31 hz32 rfl (by omega) (.slice (some ⟨w.heap.size,0,none⟩) 0 0) 0 [] rfl hO0 ad n c xs rfl hl HNW.out HON.out h0 (by unfold maxLen;omega) (by omega) (by simp) _ rfl ?_;intro g8 cap8 w8 hO8 hgr8 hat8 hlt8;rw [Nat.zero_add,List.nil_append] at hO8;rw [Nat.zero_add])
 go_ret
 exact⟨g8,cap8,rfl,hO8,gB hb1 (r:=w.heap.size) hgr8 (Nat.le_refl _)⟩
end Go.Proofs.YtgeiamgeclbiaaaGreatDoor
