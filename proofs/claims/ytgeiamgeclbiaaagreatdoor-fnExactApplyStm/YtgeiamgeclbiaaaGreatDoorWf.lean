import Derived.Test.YtgeiamgeclbiaaaGreatDoorYa
import Derived.Test.YtgeiamgeclbiaaaGreatDoorXx
namespace Go.Proofs.YtgeiamgeclbiaaaGreatDoor
open Go.RowKit Go.Maps Go.WideMaps
set_option maxRecDepth 20000
set_option maxHeartbeats 8000000
theorem nd_disj:∀ {A:List Tb},(A.flatMap Tb.bl).Nodup->∀ {i k:Nat},i<k->k<A.length->∀ b∈(A.getD i b0).bl,b ∉ (A.getD k b0).bl
 | [],_,i,k,_,hk=>by simp at hk
 | t :: A,hn,i,k,hik,hk=>by
  rw [List.flatMap_cons,List.nodup_append] at hn;intro b hb hb2;match i,k,hik,hk with
  | 0,k+1,_,hk=>
   have h1:b∈t.bl:=by simpa using hb
   have h2:b∈(A.getD k b0).bl:=by simpa using hb2
   exact hn.2.2 b h1 b (List.mem_flatMap.2 ⟨_,getD_mem (by simpa using hk),h2⟩) rfl
  | i+1,k+1,hik,hk=>exact nd_disj hn.2.1 (i:=i) (k:=k) (by omega) (by simpa using hk) b (by simpa using hb) (by simpa using hb2)
theorem nd_apart{A:List Tb}(h:(A.flatMap Tb.bl).Nodup){i k:Nat}(hne:i≠k)(hi:i<A.length)(hk:k<A.length):∀ b∈(A.getD i b0).bl,b ∉ (A.getD k b0).bl:=by
 rcases Nat.lt_or_gt_of_ne hne with z | z
 · exact nd_disj h z hk
 · exact fun b hb hb2=>nd_disj h z hi b hb2 hb
theorem bk_ne{b q n:Nat}(h:q≠b):some q≠bk (some (⟨b,0,none⟩:Addr)) n:=by
 unfold bk;split
 · simp
 · intro e;exact h (Option.some.inj e)
theorem bk_eq{b q n:Nat}(h:bk (some (⟨b,0,none⟩:Addr)) n=some q):q=b:=by
 unfold bk at h;split at h
 · cases h
 · exact(Option.some.inj h).symm
theorem markTabs(g c z:Nat)(A:List Tb)(Z:Int)(hZ:Z=(z:Int))(w:World)(hD:DbAt w g A)(hz0:0<z)(hz:zT A z A.length<9000000000000000000)(hn:A.length<=1048576)(hl:∀ t∈A,t.L.length<=1048576) :
 Calls Tryz.prog 44 #[.slice (some ⟨g,0,none⟩) A.length c,.int .i64 Z] w fun e w'=>∃ K:Int,e=.returned (.int .i64 K)/\Hid (K=((zT A z A.length:Nat):Int))/\MTb w' g A z/\Fr (fun q=>q∈g :: A.flatMap Tb.bl) w w':=by
 obtain⟨⟨cur0,hg0,hcs0,hc0⟩,hat,hnd⟩:=hD;have HND:Hid ((g :: A.flatMap Tb.bl).Nodup):=hnd;have HZ:Hid (Z=(z:Int)):=hZ;have HC0:Hid (∀ i,i<A.length->(∃ s,cur0[i * 3]?=some (.string s))/\cur0[i * 3+1]?=some (.slice (some ⟨(A.getD i b0).bc,0,none⟩) (A.getD i b0).n (A.getD i b0).cc)/\cur0[i * 3+2]?=some (.slice (A.getD i b0).ar (A.getD i b0).L.length (A.getD i b0).cr)):=fun i hi=>⟨⟨_,(hc0 i hi).1⟩,(hc0 i hi).2⟩;have HST:Hid (∀ i,i<A.length->TbS w (A.getD i b0)):=fun i hi=>(hat _ (getD_mem hi)).st;clear hnd hZ hc0 hat;go_enter Tryz.func44,Tryz.ntmps44
 go_wp2;go_loopw [1,5] (fun k i wr=>∃ (j:Nat) (K:Int) (cur:Array Value),k=.int .i64 K/\K=((zT A z j:Nat):Int)/\j<=A.length/\i=.int .i64 j/\wr.heap[g]?=some (.cells cur 62 (0,0))/\cur.size=cur0.size/\(∀ i,i<A.length->(∃ s,cur[i * 3]?=some (.string s))/\cur[i * 3+1]?=some (.slice (some ⟨(A.getD i b0).bc,0,none⟩) (A.getD i b0).n (A.getD i b0).cc)/\cur[i * 3+2]?=some (.slice (A.getD i b0).ar (A.getD i b0).L.length (A.getD i b0).cr))/\(∀ i,i<j->cur[i * 3]?=some (.string (mtx (zT A z i)))/\MC wr (some ⟨(A.getD i b0).bc,0,none⟩) (A.getD i b0).n (zT A z i+1)/\MRw wr (A.getD i b0) (zT A z i+1+2 * (A.getD i b0).n))/\(∀ i,j<=i->i<A.length->TbS wr (A.getD i b0))/\Fr (fun q=>q∈g :: A.flatMap Tb.bl) w wr) (fun _ i _=>A.length - (intOf i).toNat)
 case atStart=>exact⟨0,_,cur0,rfl,HZ.out,by omega,rfl,hg0,rfl,HC0.out,fun i hi=>by omega,fun i _ hi=>HST.out i hi,Fr.refl _ _⟩
 case round=>
  obtain⟨j,K,cur,rfl,hK,hj,rfl,hg,hsz,hcc,hdone,htodo,hfr⟩:=hrel;have HK:Hid (K=((zT A z j:Nat):Int)):=hK;have HCC:Hid (∀ i,i<A.length->(∃ s,cur[i * 3]?=some (.string s))/\cur[i * 3+1]?=some (.slice (some ⟨(A.getD i b0).bc,0,none⟩) (A.getD i b0).n (A.getD i b0).cc)/\cur[i * 3+2]?=some (.slice (A.getD i b0).ar (A.getD i b0).L.length (A.getD i b0).cr)):=hcc;have HDN:Hid (∀ i,i<j->cur[i * 3]?=some (.string (mtx (zT A z i)))/\MC wr (some ⟨(A.getD i b0).bc,0,none⟩) (A.getD i b0).n (zT A z i+1)/\MRw wr (A.getD i b0) (zT A z i+1+2 * (A.getD i b0).n)):=hdone;have HTD:Hid (∀ i,j<=i->i<A.length->TbS wr (A.getD i b0)):=htodo;clear hK hcc hdone htodo;by_cases hlt:j<A.length
  rotate_left
  ·
   obtain rfl:j=A.length:=by omega
   go_wp2;go_ret
   exact⟨_,rfl,HK.out,⟨cur,hg,fun i hi=>⟨(HDN.out i hi).1,(HCC.out i hi).2.1,(HCC.out i hi).2.2,(HDN.out i hi).2⟩⟩,hfr⟩
  ·
   have hjn:(j:Int)<(A.length:Int):=by omega
   obtain⟨⟨s0,q0⟩,q1,q2⟩:=HCC.out j hlt;have hTS:=HTD.out j (Nat.le_refl _) hlt;have htm:A.getD j b0∈A:=getD_mem hlt;have hbn:=nd_mem (List.nodup_cons.1 HND.out).2 htm;have hgn:g ∉ (A.getD j b0).bl:=fun hm=>(List.nodup_cons.1 HND.out).1 (List.mem_flatMap.2 ⟨_,htm,hm⟩);have HSUB:Hid (∀ b∈(A.getD j b0).bl,b∈A.flatMap Tb.bl):=fun b hb=>List.mem_flatMap.2 ⟨_,htm,hb⟩;have HAP:Hid (∀ i,i≠j->i<A.length->∀ b∈(A.getD i b0).bl,b ∉ (A.getD j b0).bl/\b≠g):=fun i hij hi b hb=>⟨nd_apart (List.nodup_cons.1 HND.out).2 hij hi hlt b hb,fun e=>(List.nodup_cons.1 HND.out).1 (List.mem_flatMap.2 ⟨_,getD_mem hi,e ▸ hb⟩)⟩;have HN:Hid (zT A z (j+1)=zT A z j+1+2 * (A.getD j b0).n+3 * rM (A.getD j b0)):=rfl;have hzj:z<=zT A z j:=zT_mono A z (Nat.zero_le j);have hzn:zT A z (j+1)<=zT A z A.length:=zT_mono A z (by omega);have hll:=hl _ htm;rw [HN.out] at hzn;obtain⟨t,ht⟩:∃ t,A.getD j b0=t:=⟨_,rfl⟩;have HT:Hid (A.getD j b0=t):=ht;rw [ht] at q1 q2 hTS hbn hgn HSUB HAP HN hzn hll;obtain⟨zj,hzz⟩:∃ x,zT A z j=x:=⟨_,rfl⟩;have HZJ:Hid (zT A z j=zj):=hzz;rw [hzz] at HK HN hzj hzn;obtain⟨y0,hy0⟩:∃ y,mtx zj=y:=⟨_,rfl⟩;have HY0:Hid (mtx zj=y0):=hy0;have hK0:0<K:=by have:=HK.out;omega
   have hK1:K<9000000000000000000:=by have:=HK.out;omega
   have c0:=(cell_of_row _ _ (j * 3) _ _ _ hg).trans q0;have hbcg:t.bc≠g:=fun e=>hgn (by rw [←e];exact List.mem_cons_self);have hLg:∀ r∈t.L,r.b≠g:=fun r hr e=>hgn (by rw [←e];exact List.mem_cons_of_mem _ (List.mem_append_right _ (List.mem_map_of_mem hr)));have hLc:∀ r∈t.L,r.b≠t.bc:=fun r hr e=>(List.nodup_cons.1 hbn).1 (by rw [←e];exact List.mem_append_right _ (List.mem_map_of_mem hr));have hRg:∀ b,t.br=some b->b≠g/\b≠t.bc:=fun b hb=>⟨fun e=>hgn (by rw [←e];exact List.mem_cons_of_mem _ (List.mem_append_left _ (by rw [hb];simp))),fun e=>(List.nodup_cons.1 hbn).1 (by rw [←e];exact List.mem_append_left _ (by rw [hb];simp))⟩;obtain⟨cuc,hc1,hc2⟩:=hTS.col;clear ht hzz hy0 htm;go_wp2_with (first
    | (go_at_call 96;refine(markText_as zj _ _ (by have:=HK.out;omega) (by omega) (by omega) y0 HY0.out).mono ?_;rintro e w1 ⟨rfl,hb1⟩;have d0:=keepB hb1 c0;have f0:=frozen_of_row _ _ (j * 3) _ _ (rowL hg hb1);have hgS:=heap_setCell_same w1 g (j * 3) _ _ (.string y0) (rowL hg hb1);have d1:=(cell_of_row _ _ (j * 3+1) _ _ _ hgS).trans ((Array.getElem?_setIfInBounds_ne (by omega)).trans q1);have hcS:=rowO (B:=g) (i:=j * 3) (v:=.string y0) (rowL hc1 hb1) hbcg)
    | (go_at_call 45;refine(markClA 0 (w1.setCell ⟨g,j * 3,none⟩ (.string y0)).heap.size (some ⟨t.bc,0,none⟩) t.n _ (zj+1) _ (by have:=HK.out;omega) _ (Or.inr ⟨t.bc,cuc,rfl,Nat.zero_le _,(Array.getElem?_eq_some_iff.1 hcS).1,hcS,hc2⟩) (by omega) (by omega)).mono ?_;rintro e w3 ⟨K3,rfl,HK3,hM3,hg3⟩;have hg3r:=rowR hgS hg3 (bk_ne (Ne.symm hbcg));have d2:=(cell_of_row _ _ (j * 3+2) _ _ _ hg3r).trans ((Array.getElem?_setIfInBounds_ne (by omega)).trans q2))
    | (go_at_call 16;refine(markRw t _ (zj+1+2 * t.n) _ (by have:=HK3.out;omega) w3 (fun r hr=>(by obtain⟨cu,a1,a2⟩:=hTS.ros r hr;exact⟨cu,rowR (rowO (rowL a1 hb1) (hLg r hr)) hg3 (bk_ne (hLc r hr)),a2⟩)) (by rcases hTS.row with z | ⟨b,cu,e,a1,a2⟩;exact Or.inl z;exact Or.inr ⟨b,cu,e,rowR (rowO (rowL a1 hb1) (hRg b e).1) hg3 (bk_ne (hRg b e).2),a2⟩) hbn (by omega) (by omega) hll).mono ?_;rintro e w4 ⟨K4,rfl,HK4,hM4,hf4⟩)
    | go_in)
   have F:Fr (fun q=>q=g∨q∈t.bl) wr w4:=(((Fr.below hb1).trans (Fr.grown (gset w1 g (j * 3) (.string y0)) (fun q e=>Or.inl (Option.some.inj e).symm))).trans (Fr.grown hg3 (fun q e=>Or.inr (by rw [bk_eq e];exact List.mem_cons_self)))).trans (hf4.wide (fun q hq=>Or.inr (List.mem_cons_of_mem _ (List.mem_append_right _ hq))));have hg4:=hf4.row hg3r (fun hm=>by obtain⟨r,hr,e⟩:=List.mem_map.1 hm;exact hLg r hr e);have hM34:=hM3.fr hf4 (fun hm=>by obtain⟨r,hr,e⟩:=List.mem_map.1 hm;exact hLc r hr e);have hap:∀ i,i≠j->i<A.length->∀ b∈(A.getD i b0).bl,¬(b=g∨b∈t.bl):=fun i h1 h2 b hb hx=>by
    have:=HAP.out i h1 h2 b hb;rcases hx with e | e
    · exact this.2 e
    · exact this.1 e
   go_roundw
   case rel=>exact⟨j+1,_,cur.setIfInBounds (j * 3) (.string y0),rfl,by rw [HN.out];exact HK4.out,by omega,by go_num,hg4,by rw [Array.size_setIfInBounds,hsz],fun i hi=>by
    obtain⟨⟨s,a0⟩,a1,a2⟩:=HCC.out i hi;refine⟨?_,by rw [Array.getElem?_setIfInBounds_ne (by omega)];exact a1,by rw [Array.getElem?_setIfInBounds_ne (by omega)];exact a2⟩;by_cases e:i=j
    · subst e;exact⟨y0,by rw [Array.getElem?_setIfInBounds_self_of_lt (Array.getElem?_eq_some_iff.1 a0).1]⟩
    · exact⟨s,by rw [Array.getElem?_setIfInBounds_ne (by omega)];exact a0⟩,fun i hi=>by
    by_cases e:i=j
    · subst e;rw [HT.out,HZJ.out,HY0.out];exact⟨by rw [Array.getElem?_setIfInBounds_self_of_lt (Array.getElem?_eq_some_iff.1 q0).1],hM34,hM4⟩
    · obtain⟨a0,a1,a2⟩:=HDN.out i (by omega);exact⟨by rw [Array.getElem?_setIfInBounds_ne (by omega)];exact a0,a1.fr F (hap i e (by omega) _ List.mem_cons_self),a2.fr F (hap i e (by omega))⟩,fun i h1 h2=>(HTD.out i (by omega) h2).fr F (hap i (by omega) h2),hfr.trans (F.wide (fun q hq=>by
    rcases hq with e | e
    · rw [e];exact List.mem_cons_self
    · exact List.mem_cons_of_mem _ (HSUB.out q e)))⟩
   case measure=>simp [intOf];omega
set_option maxRecDepth 20000
set_option maxHeartbeats 4000000
theorem markDbA(lo g c:Nat)(A:List Tb)(w:World)(hD:DbIn lo w g A)(hz:zT A 1 A.length<9000000000000000000)(hn:A.length<=1048576)(hl:∀ t∈A,t.L.length<=1048576)(hlo:lo<=w.heap.size) :
 Calls Tryz.prog 14 #[.agg #[.slice (some ⟨g,0,none⟩) A.length c],.int .i64 1] w fun e w'=>∃ K:Int,e=.returned (.int .i64 K)/\Hid (K=((zT A 1 A.length:Nat):Int))/\MTb w' g A 1/\Below lo w w'/\∀ q,q<w.heap.size->q ∉ g :: A.flatMap Tb.bl->w'.heap[q]?=w.heap[q]?:=by
 have hb0:=bal w (.cells #[.slice (some ⟨g,0,none⟩) A.length c] 38);have hq0:=heap_alloc_new w (.cells #[.slice (some ⟨g,0,none⟩) A.length c] 38);obtain⟨p0,-⟩:=box1 hq0;have HT:=markTabs g c 1 A 1 rfl _ (hD.later hb0).1 (by omega) hz hn hl;have HIN:Hid (∀ q,q∈g :: A.flatMap Tb.bl->lo<=q):=fun q hq=>(hD.2 q hq).1;go_enter Tryz.func14,Tryz.ntmps14
 go_wp2_with (first | (go_at_call 44;refine HT.mono ?_;rintro e w1 ⟨K,rfl,HK,hM,hF⟩) | go_in)
 go_ret
 exact⟨_,rfl,HK.out,hM,(hb0.mono hlo).trans (hF.to HIN.out (Nat.le_trans hlo hb0.size)),fun q hq hm=>(hF.block q (Nat.lt_of_lt_of_le hq hb0.size) hm).trans (hb0.block q hq)⟩
set_option maxRecDepth 20000
set_option maxHeartbeats 8000000
def soft(t:TypeId)(i:Nat):Prop:=t=113∨t=66∨t=108∨(t=62/\i % 3=0)
structure Mk(lo hi:Nat)(w w':World):Prop where
 os:w'.os=w.os
 tape:w'.tape=w.tape
 output:w'.output=w.output
 size:w.heap.size<=w'.heap.size
 out:∀ b:Nat,b<w.heap.size->b<lo∨hi<=b->w'.heap[b]?=w.heap[b]?
 ins:∀ (b:Nat) (cur:Array Value) (t:TypeId),w.heap[b]?=some (.cells cur t (0,0))->∃ cur':Array Value,w'.heap[b]?=some (.cells cur' t (0,0))/\cur'.size=cur.size/\∀ i,¬soft t i->cur'[i]?=cur[i]?
theorem Mk.refl(lo hi:Nat)(w:World):Mk lo hi w w:=⟨rfl,rfl,rfl,Nat.le_refl _,fun _ _ _=>rfl,fun _ cur _ h=>⟨cur,h,rfl,fun _ _=>rfl⟩⟩
theorem Mk.below{lo hi:Nat}{w w':World}(h:Below w.heap.size w w'):Mk lo hi w w':=⟨h.os,h.tape,h.output,h.size,fun b hb _=>h.block b hb,fun _ cur _ hc=>⟨cur,rowL hc h,rfl,fun _ _=>rfl⟩⟩
theorem Mk.trans{lo hi:Nat}{a b c:World}(h:Mk lo hi a b)(k:Mk lo hi b c):Mk lo hi a c:=
 ⟨k.os.trans h.os,k.tape.trans h.tape,k.output.trans h.output,Nat.le_trans h.size k.size,fun x hx hn=>(k.out x (Nat.lt_of_lt_of_le hx h.size) hn).trans (h.out x hx hn),fun x cur t hc=>by
  obtain⟨c1,h1,h2,h3⟩:=h.ins x cur t hc;obtain⟨c2,k1,k2,k3⟩:=k.ins x c1 t h1;exact⟨c2,k1,k2.trans h2,fun i hi=>(k3 i hi).trans (h3 i hi)⟩⟩
theorem Mk.grown{lo hi g:Nat}{w w':World}{cur cur':Array Value}{t:TypeId}(hg:w.grownBy w' (some g))(h1:w.heap[g]?=some (.cells cur t (0,0)))(h2:w'.heap[g]?=some (.cells cur' t (0,0)))(hs:cur'.size=cur.size)(ha:lo<=g)(hb:g<hi)(ht:∀ i,soft t i):Mk lo hi w w':=
 ⟨hg.os,hg.tape,hg.output,hg.size,fun x hx hn=>hg.block x hx (fun e=>by have e2:x=g:=Option.some.inj e;omega),fun x c u hc=>by
  by_cases e:x=g
  ·
   subst e;rw [h1] at hc;simp only [Option.some.injEq,Obj.cells.injEq] at hc
   obtain⟨rfl,rfl,-⟩:=hc;exact⟨cur',h2,hs,fun i hi=>absurd (ht i) hi⟩
  · exact⟨c,rowR hc hg (fun e2=>e (Option.some.inj e2)),rfl,fun _ _=>rfl⟩⟩
theorem Mk.row{lo hi:Nat}{w w':World}(h:Mk lo hi w w'){q:Nat}{o:Obj}(hq:w.heap[q]?=some o)(hn:q<lo∨hi<=q):w'.heap[q]?=some o:=(h.out q (Array.getElem?_eq_some_iff.1 hq).1 hn).trans hq
theorem WR.mk{w w':World}{lo hi:Nat}{t:TypeId}{z:Nat}{a:Option Addr}{n:Nat}(h:WR w lo hi t z a n)(k:Mk lo hi w w'):WR w' lo hi t z a n:=by
 rcases h with h | ⟨g,cur,e1,e2,e3,e4,e5⟩
 · exact Or.inl h
 · obtain⟨c,k1,k2,-⟩:=k.ins g cur t e4;exact Or.inr ⟨g,c,e1,e2,e3,k1,by omega⟩
def SR(w:World)(lo hi:Nat)(u t:TypeId)(g n:Nat)(m:Nat->Nat):Prop:=lo<=g/\g<hi/\∃ cur,w.heap[g]?=some (.cells cur u (0,0))/\∀ k,k<n->m k<=1048576/\∃ q,cur[k]?=some (.slice (some ⟨q,0,none⟩) (m k) (m k))/\WR w lo hi t 3 (some ⟨q,0,none⟩) (m k)
theorem SR.mk{w w':World}{lo hi:Nat}{u t:TypeId}{g n:Nat}{m:Nat->Nat}(h:SR w lo hi u t g n m)(k:Mk lo hi w w')(hu:∀ i,¬soft u i):SR w' lo hi u t g n m:=by
 obtain⟨h1,h2,cur,h3,h4⟩:=h;obtain⟨c,k1,k2,k3⟩:=k.ins g cur u h3;refine⟨h1,h2,c,k1,fun j hj=>?_⟩;obtain⟨hm,q,e1,e2⟩:=h4 j hj;exact⟨hm,q,(k3 j (hu j)).trans e1,e2.mk k⟩
def STb(w:World)(lo hi:Nat)(g n:Nat)(T:Nat->Td):Prop:=lo<=g/\g<hi/\∃ cur,w.heap[g]?=some (.cells cur 62 (0,0))/\n * 3<=cur.size/\∀ k,k<n->(T k).n<=1048576/\(T k).r<=1048576/\∃ g1 g2,cur[k * 3+1]?=some (.slice (some ⟨g1,0,none⟩) (T k).n (T k).n)/\cur[k * 3+2]?=some (.slice (some ⟨g2,0,none⟩) (T k).r (T k).r)/\WR w lo hi 113 2 (some ⟨g1,0,none⟩) (T k).n/\SR w lo hi 41 66 g2 (T k).r (T k).m
theorem hardV:∀ i,¬soft 41 i:=fun i h=>by rcases h with h | h | h | ⟨h,-⟩ <;> exact absurd h (by decide)
theorem hardI:∀ i,¬soft 42 i:=fun i h=>by rcases h with h | h | h | ⟨h,-⟩ <;> exact absurd h (by decide)
theorem STb.mk{w w':World}{lo hi:Nat}{g n:Nat}{T:Nat->Td}(h:STb w lo hi g n T)(k:Mk lo hi w w'):STb w' lo hi g n T:=by
 obtain⟨h1,h2,cur,h3,h4,h5⟩:=h;obtain⟨c,k1,k2,k3⟩:=k.ins g cur _ h3;refine⟨h1,h2,c,k1,by omega,fun j hj=>?_⟩;obtain⟨e1,e2,g1,g2,e3,e4,e5,e6⟩:=h5 j hj;exact⟨e1,e2,g1,g2,(k3 _ (fun h=>by rcases h with h | h | h | ⟨-,h⟩ <;> first | omega | exact absurd h (by decide))).trans e3,(k3 _ (fun h=>by rcases h with h | h | h | ⟨-,h⟩ <;> first | omega | exact absurd h (by decide))).trans e4,e5.mk k,e6.mk k hardV⟩
theorem softColumn:∀ i,soft 113 i:=fun i=>by unfold soft;simp
theorem mkCl(lo hi:Nat)(a:Option Addr)(n c z:Nat)(Z:Int)(hZ:Z=(z:Int))(w:World)(h:WR w lo hi 113 2 a n)(hz0:0<z)(hz:z+2 * n<9000000000000000000) :
 Calls Tryz.prog 45 #[.slice a n c,.int .i64 Z] w fun e w'=>∃ K:Int,e=.returned (.int .i64 K)/\Hid (K=((z+2 * n:Nat):Int))/\Mk lo hi w w':=by
 subst hZ;by_cases e:n=0
 · subst e;refine(markCl_zero a c z w).mono ?_;rintro e w' ⟨rfl,rfl⟩;exact⟨_,rfl,(show _=_ by simp),Mk.refl _ _ _⟩
 ·
  rcases h with h | ⟨g,cur,rfl,h2,h3,h4,h5⟩
  · exact absurd h e
  · refine(markCl_some g n c z cur w h4 h5 hz0 hz).mono ?_;rintro e' w' ⟨rfl,⟨cur',k1,ks,k2⟩,k3⟩;exact⟨_,rfl,rfl,Mk.grown k3 h4 k1 ks h2 h3 softColumn⟩
theorem softValue:∀ i,soft 66 i:=fun i=>by unfold soft;simp
theorem mkVl(lo hi:Nat)(a:Option Addr)(n c z:Nat)(Z:Int)(hZ:Z=(z:Int))(w:World)(h:WR w lo hi 66 3 a n)(hz0:0<z)(hz:z+3 * n<9000000000000000000) :
 Calls Tryz.prog 46 #[.slice a n c,.int .i64 Z] w fun e w'=>∃ K:Int,e=.returned (.int .i64 K)/\Hid (K=((z+3 * n:Nat):Int))/\Mk lo hi w w':=by
 subst hZ;by_cases e:n=0
 · subst e;refine(markVl_zero a c z w).mono ?_;rintro e w' ⟨rfl,rfl⟩;exact⟨_,rfl,(show _=_ by simp),Mk.refl _ _ _⟩
 ·
  rcases h with h | ⟨g,cur,rfl,h2,h3,h4,h5⟩
  · exact absurd h e
  · refine(markVl_some g n c z cur w h4 h5 hz0 hz).mono ?_;rintro e' w' ⟨rfl,⟨cur',k1,ks,k2⟩,k3⟩;exact⟨_,rfl,rfl,Mk.grown k3 h4 k1 ks h2 h3 softValue⟩
theorem softItem:∀ i,soft 108 i:=fun i=>by unfold soft;simp
theorem mkIt(lo hi:Nat)(a:Option Addr)(n c z:Nat)(Z:Int)(hZ:Z=(z:Int))(w:World)(h:WR w lo hi 108 3 a n)(hz0:0<z)(hz:z+3 * n<9000000000000000000) :
 Calls Tryz.prog 47 #[.slice a n c,.int .i64 Z] w fun e w'=>∃ K:Int,e=.returned (.int .i64 K)/\Hid (K=((z+3 * n:Nat):Int))/\Mk lo hi w w':=by
 subst hZ;by_cases e:n=0
 · subst e;refine(markIt_zero a c z w).mono ?_;rintro e w' ⟨rfl,rfl⟩;exact⟨_,rfl,(show _=_ by simp),Mk.refl _ _ _⟩
 ·
  rcases h with h | ⟨g,cur,rfl,h2,h3,h4,h5⟩
  · exact absurd h e
  · refine(markIt_some g n c z cur w h4 h5 hz0 hz).mono ?_;rintro e' w' ⟨rfl,⟨cur',k1,ks,k2⟩,k3⟩;exact⟨_,rfl,rfl,Mk.grown k3 h4 k1 ks h2 h3 softItem⟩
theorem mkRows(lo hi g n c z:Nat)(m:Nat->Nat)(Z:Int)(hZ:Z=(z:Int))(w:World)(h:SR w lo hi 41 66 g n m)(hz0:0<z)(hz:z+3 * (n * 1048576)<9000000000000000000)(hn:n<=1048576) :
 Calls Tryz.prog 16 #[.slice (some ⟨g,0,none⟩) n c,.int .i64 Z] w fun e w'=>∃ (K:Int) (k:Nat),e=.returned (.int .i64 K)/\Hid (K=(k:Int))/\z<=k/\k<=z+3 * (n * 1048576)/\Mk lo hi w w':=by
 go_enter Tryz.func16,Tryz.ntmps16
 go_wp2;go_loopw [1,5] (fun k i wr=>∃ (j y:Nat) (K:Int),k=.int .i64 K/\K=(y:Int)/\z<=y/\y<=z+3 * (j * 1048576)/\j<=n/\i=.int .i64 j/\Mk lo hi w wr) (fun _ i _=>n - (intOf i).toNat)
 case atStart=>exact⟨0,z,Z,rfl,hZ,Nat.le_refl _,by omega,by omega,rfl,Mk.refl _ _ _⟩
 case round=>
  obtain⟨j,y,K,rfl,hK,hy1,hy2,hj,rfl,hM⟩:=hrel;have HK:Hid (K=(y:Int)):=hK;have hK0:0<K:=by omega
  have hK1:K<9000000000000000000:=by
   have:j * 1048576<=n * 1048576:=Nat.mul_le_mul_right _ hj;omega
  clear hK;by_cases hlt:j<n
  ·
   obtain⟨-,-,cur,hr,hall⟩:=h.mk hM hardV;obtain⟨hm,q,hq,hw⟩:=hall j hlt;have c0:wr.cell? ⟨g,j,none⟩=some (.slice (some ⟨q,0,none⟩) (m j) (m j)):=(cell_of_row _ _ _ _ _ _ hr).trans hq;have hb1:(j+1) * 1048576<=n * 1048576:=Nat.mul_le_mul_right _ hlt;have HM:=mkVl lo hi (some ⟨q,0,none⟩) (m j) (m j) y K HK.out wr hw (by omega) (by omega);clear hr hall hq;have hjn:(j:Int)<n:=by omega
   go_wp2_with (go_at_call 46;refine HM.mono ?_;rintro e w1 ⟨K1,rfl,HK1,hM1⟩)
   go_roundw
   case rel=>exact⟨j+1,y+3 * m j,K1,rfl,HK1.out,by omega,by omega,by omega,by go_num,hM.trans hM1⟩
   case measure=>simp [intOf];omega
  ·
   obtain rfl:j=n:=by omega
   go_wp2;go_ret
   exact⟨K,y,rfl,HK,hy1,hy2,hM⟩
theorem mkOuts(lo hi g n c z:Nat)(m:Nat->Nat)(Z:Int)(hZ:Z=(z:Int))(w:World)(h:SR w lo hi 42 108 g n m)(hz0:0<z)(hz:z+3 * (n * 1048576)<9000000000000000000)(hn:n<=1048576) :
 Calls Tryz.prog 48 #[.slice (some ⟨g,0,none⟩) n c,.int .i64 Z] w fun e w'=>∃ (K:Int) (k:Nat),e=.returned (.int .i64 K)/\Hid (K=(k:Int))/\z<=k/\k<=z+3 * (n * 1048576)/\Mk lo hi w w':=by
 go_enter Tryz.func48,Tryz.ntmps48
 go_wp2;go_loopw [1,5] (fun k i wr=>∃ (j y:Nat) (K:Int),k=.int .i64 K/\K=(y:Int)/\z<=y/\y<=z+3 * (j * 1048576)/\j<=n/\i=.int .i64 j/\Mk lo hi w wr) (fun _ i _=>n - (intOf i).toNat)
 case atStart=>exact⟨0,z,Z,rfl,hZ,Nat.le_refl _,by omega,by omega,rfl,Mk.refl _ _ _⟩
 case round=>
  obtain⟨j,y,K,rfl,hK,hy1,hy2,hj,rfl,hM⟩:=hrel;have HK:Hid (K=(y:Int)):=hK;have hK0:0<K:=by omega
  have hK1:K<9000000000000000000:=by
   have:j * 1048576<=n * 1048576:=Nat.mul_le_mul_right _ hj;omega
  clear hK;by_cases hlt:j<n
  ·
   obtain⟨-,-,cur,hr,hall⟩:=h.mk hM hardI;obtain⟨hm,q,hq,hw⟩:=hall j hlt;have c0:wr.cell? ⟨g,j,none⟩=some (.slice (some ⟨q,0,none⟩) (m j) (m j)):=(cell_of_row _ _ _ _ _ _ hr).trans hq;have hb1:(j+1) * 1048576<=n * 1048576:=Nat.mul_le_mul_right _ hlt;have HM:=mkIt lo hi (some ⟨q,0,none⟩) (m j) (m j) y K HK.out wr hw (by omega) (by omega);clear hr hall hq;have hjn:(j:Int)<n:=by omega
   go_wp2_with (go_at_call 47;refine HM.mono ?_;rintro e w1 ⟨K1,rfl,HK1,hM1⟩)
   go_roundw
   case rel=>exact⟨j+1,y+3 * m j,K1,rfl,HK1.out,by omega,by omega,by omega,by go_num,hM.trans hM1⟩
   case measure=>simp [intOf];omega
  ·
   obtain rfl:j=n:=by omega
   go_wp2;go_ret
   exact⟨K,y,rfl,HK,hy1,hy2,hM⟩
theorem RoAt.keep{w w':World}{r:Ro}(h:RoAt w r)(k:r.b<w.heap.size->w'.heap[r.b]?=w.heap[r.b]?):RoAt w' r:=by
 have hk:=k h.lt;obtain⟨⟨cur,h1,h2⟩,h3⟩:=h;refine⟨⟨cur,hk.trans h1,h2⟩,fun j hj=>?_⟩;obtain⟨b,off,e,c0,c1,c2,hs⟩:=h3 j hj;injection e with e;injection e with e1 e2 e3;subst e1 e2;exact⟨r.b,0,rfl,(World.cell?_of_block hk).trans c0,(World.cell?_of_block hk).trans c1,(World.cell?_of_block hk).trans c2,hs⟩
theorem TbAt.keep{w w':World}{t:Tb}(h:TbAt w t)(k:∀ b∈t.bl,b<w.heap.size->w'.heap[b]?=w.heap[b]?):TbAt w' t:=by
 obtain⟨⟨cur,h1,h2⟩,h3,h4,h5⟩:=h;have e1:w'.heap[t.bc]?=some (.cells cur 113 (0,0)):=(k _ List.mem_cons_self (Array.getElem?_eq_some_iff.1 h1).1).trans h1;refine⟨⟨cur,e1,h2⟩,h3.blk h1 e1,fun r hr=>(h4 r hr).keep (k _ (List.mem_cons_of_mem _ (List.mem_append_right _ (List.mem_map_of_mem hr)))),?_⟩;rcases h5 with h5 | ⟨b,cur2,h6,h7,h8⟩
 · exact Or.inl h5
 · exact Or.inr ⟨b,cur2,h6,(k _ (List.mem_cons_of_mem _ (List.mem_append_left _ (by rw [h6];simp))) (Array.getElem?_eq_some_iff.1 h7).1).trans h7,h8⟩
theorem DbIn.keep{lo g:Nat}{w w':World}{A:List Tb}(h:DbIn lo w g A)(hs:w.heap.size<=w'.heap.size)(k:∀ b,lo<=b->b<w.heap.size->w'.heap[b]?=w.heap[b]?):DbIn lo w' g A:=by
 obtain⟨⟨⟨cur,h1,h2,h3⟩,h4,h5⟩,h6⟩:=h;refine⟨⟨⟨cur,(k g (h6 g List.mem_cons_self).1 (h6 g List.mem_cons_self).2).trans h1,h2,h3⟩,fun t ht=>(h4 t ht).keep (fun b hb hlt=>k b (h6 b (List.mem_cons_of_mem _ (List.mem_flatMap.2 ⟨t,ht,hb⟩))).1 hlt),h5⟩,fun b hb=>⟨(h6 b hb).1,Nat.lt_of_lt_of_le (h6 b hb).2 hs⟩⟩
theorem DbIn.mk{lo hi lo' g:Nat}{w w':World}{A:List Tb}(h:DbIn lo' w g A)(k:Mk lo hi w w')(hh:hi<=lo'):DbIn lo' w' g A:=h.keep k.size (fun b hb hlt=>k.out b hlt (Or.inr (by omega)))
set_option maxRecDepth 20000
set_option maxHeartbeats 4000000
theorem markTabs0(a:Option Addr)(c:Nat)(Z:Int)(w:World):Calls Tryz.prog 44 #[.slice a 0 c,.int .i64 Z] w fun e w'=>e=.returned (.int .i64 Z)/\w'=w:=by
 go_enter Tryz.func44,Tryz.ntmps44
 go_wp2;go_loop [1,5] (fun k i=>k=.int .i64 Z/\i=.int .i64 0) (fun _ _=>0)
 case atStart=>exact⟨rfl,rfl⟩
 case round=>
  obtain⟨rfl,rfl⟩:=hrel;go_wp2;go_ret
  exact⟨rfl,rfl⟩
theorem heldTabs0(a:Option Addr)(c:Nat)(Z:Int)(w:World):Calls Tryz.prog 61 #[.slice a 0 c,.int .i64 Z] w fun e w'=>e=.returned (.int .i64 Z)/\w'=w:=by
 go_enter Tryz.func61,Tryz.ntmps61
 go_wp2;go_loop [1,5] (fun k i=>k=.int .i64 Z/\i=.int .i64 0) (fun _ _=>0)
 case atStart=>exact⟨rfl,rfl⟩
 case round=>
  obtain⟨rfl,rfl⟩:=hrel;go_wp2;go_ret
  exact⟨rfl,rfl⟩
theorem markDb0(a:Option Addr)(c:Nat)(w:World):Calls Tryz.prog 14 #[.agg #[.slice a 0 c],.int .i64 1] w fun e w'=>e=.returned (.int .i64 1)/\Below w.heap.size w w':=by
 have hb0:=bal w (.cells #[.slice a 0 c] 38);go_enter Tryz.func14,Tryz.ntmps14
 go_wp2_with (first | (go_at_call 44;refine(markTabs0 _ _ _ _).mono ?_;rintro e w1 ⟨rfl,rfl⟩) | go_in)
 go_ret
 exact⟨rfl,hb0⟩
theorem heldDb0(a:Option Addr)(c:Nat)(w:World):Calls Tryz.prog 20 #[.agg #[.slice a 0 c],.int .i64 1] w fun e w'=>e=.returned (.int .i64 1)/\Below w.heap.size w w':=by
 have hb0:=bal w (.cells #[.slice a 0 c] 38);go_enter Tryz.func20,Tryz.ntmps20
 go_wp2_with (first | (go_at_call 61;refine(heldTabs0 _ _ _ _).mono ?_;rintro e w1 ⟨rfl,rfl⟩) | go_in)
 go_ret
 exact⟨rfl,hb0⟩
set_option maxRecDepth 20000
set_option maxHeartbeats 8000000
theorem Mk.set{lo hi g i:Nat}{w:World}{cur:Array Value}{v:Value}(hr:w.heap[g]?=some (.cells cur 62 (0,0)))(h1:lo<=g)(h2:g<hi)(h3:i % 3=0):Mk lo hi w (w.setCell ⟨g,i,none⟩ v):=
 ⟨rfl,rfl,rfl,by simp,fun x hx hn=>heap_setCell_other _ _ _ _ (by show x≠g;omega),fun x c u hc=>by
  by_cases e:x=g
  ·
   subst e;rw [hr] at hc;simp only [Option.some.injEq,Obj.cells.injEq] at hc
   obtain⟨rfl,rfl,-⟩:=hc;refine⟨_,heap_setCell_same _ _ _ _ _ _ hr,by simp,fun j hj=>?_⟩;rw [Array.getElem?_setIfInBounds,if_neg (fun e=>hj (by subst e;exact Or.inr (Or.inr (Or.inr ⟨rfl,h3⟩))))]
  · exact⟨c,rowO hc e,rfl,fun _ _=>rfl⟩⟩
theorem Mk.cell{lo hi g i:Nat}{w w':World}{cur:Array Value}(k:Mk lo hi w w')(hr:w.heap[g]?=some (.cells cur 62 (0,0)))(h:¬i % 3=0):w'.cell? ⟨g,i,none⟩=cur[i]?:=by
 obtain⟨c,k1,-,k3⟩:=k.ins g cur _ hr;exact(cell_of_row _ _ _ _ _ _ k1).trans (k3 i (fun h2=>by rcases h2 with h2 | h2 | h2 | ⟨-,h2⟩ <;> first | exact h h2 | exact absurd h2 (by decide)))
theorem mkTabs(lo hi g n c z:Nat)(T:Nat->Td)(Z:Int)(hZ:Z=(z:Int))(w:World)(h:STb w lo hi g n T)(hz0:0<z)(hz:z+n * 3298540000000<9000000000000000000)(hn:n<=1048576) :
 Calls Tryz.prog 44 #[.slice (some ⟨g,0,none⟩) n c,.int .i64 Z] w fun e w'=>∃ (K:Int) (k:Nat),e=.returned (.int .i64 K)/\Hid (K=(k:Int))/\z<=k/\k<=z+n * 3298540000000/\Mk lo hi w w':=by
 go_enter Tryz.func44,Tryz.ntmps44
 go_wp2;go_loopw [1,5] (fun k i wr=>∃ (j y:Nat) (K:Int),k=.int .i64 K/\K=(y:Int)/\z<=y/\y<=z+j * 3298540000000/\j<=n/\i=.int .i64 j/\Mk lo hi w wr) (fun _ i _=>n - (intOf i).toNat)
 case atStart=>exact⟨0,z,Z,rfl,hZ,Nat.le_refl _,by omega,by omega,rfl,Mk.refl _ _ _⟩
 case round=>
  obtain⟨j,y,K,rfl,hK,hy1,hy2,hj,rfl,hM⟩:=hrel;have HK:Hid (K=(y:Int)):=hK;have hK0:0<K:=by omega
  have hK1:K<9000000000000000000:=by omega
  clear hK;by_cases hlt:j<n
  ·
   obtain⟨hlo,hhi,cur,hr,hcs,hall⟩:=h.mk hM;obtain⟨e1,e2,g1,g2,e3,e4,e5,e6⟩:=hall j hlt;obtain⟨tn,htn⟩:∃ x,(T j).n=x:=⟨_,rfl⟩;obtain⟨tr,htr⟩:∃ x,(T j).r=x:=⟨_,rfl⟩;obtain⟨tm,htm⟩:∃ x,(T j).m=x:=⟨_,rfl⟩;rw [htn] at e1 e3 e5;rw [htr] at e2 e4 e6;rw [htm] at e6;have HR:Hid (wr.heap[g]?=some (.cells cur 62 (0,0))/\cur[j * 3+1]?=some (.slice (some ⟨g1,0,none⟩) tn tn)/\cur[j * 3+2]?=some (.slice (some ⟨g2,0,none⟩) tr tr)):=⟨hr,e3,e4⟩;obtain⟨v0,hv0⟩:=there (A:=cur) (k:=j * 3) (by omega);have HV0:Hid (cur[j * 3]?=some v0):=hv0;clear hr e3 e4 hall hv0 htn htr htm;obtain⟨y0,hy0⟩:∃ x,mtx y=x:=⟨_,rfl⟩;have HY0:Hid (mtx y=y0):=hy0;clear hy0;have hjn:(j:Int)<n:=by omega
   go_upto_region 5 with (go_at_call 96;refine(markText_as y _ _ HK.out (by omega) (by omega) y0 HY0.out).mono ?_;rintro e u0 ⟨rfl,hb0⟩;have K0:Hid (u0.heap[g]?=some (.cells cur 62 (0,0))):=rowL HR.out.1 hb0;have c0:u0.cell? ⟨g,j * 3,none⟩=some v0:=(cell_of_row _ _ _ _ _ _ K0.out).trans HV0.out;have f0:u0.frozen? ⟨g,j * 3,none⟩=false:=frozen_of_row _ _ _ _ _ K0.out)
   have hM0:Mk lo hi wr (u0.setCell ⟨g,j * 3,none⟩ (.string y0)):=(Mk.below hb0).trans (Mk.set K0.out hlo hhi (by omega));clear c0 f0;generalize u0.setCell ⟨g,j * 3,none⟩ (.string y0)=W0 at hM0 ⊢;have c1:W0.cell? ⟨g,j * 3+1,none⟩=some (.slice (some ⟨g1,0,none⟩) tn tn):=(hM0.cell HR.out.1 (by omega)).trans HR.out.2.1;have HC:=mkCl lo hi (some ⟨g1,0,none⟩) tn tn (y+1) (K+1) (by have:=HK.out;omega) W0 (e5.mk hM0) (by omega) (by omega);go_wp2_with (first | (go_at_call 16;have _h:=hM2;refine(mkRows lo hi g2 tr tr (y+1+2 * tn) tm K1 HK1.out _ (e6.mk hM2 hardV) (by omega) (by omega) e2).mono ?_;rintro e w3 ⟨K3,k3,rfl,HK3,hk1,hk2,hM3⟩) | (go_at_call 45;refine HC.mono ?_;rintro e w2 ⟨K1,rfl,HK1,hM1⟩;have hM2:=hM0.trans hM1;have c2:w2.cell? ⟨g,j * 3+2,none⟩=some (.slice (some ⟨g2,0,none⟩) tr tr):=(hM2.cell HR.out.1 (by omega)).trans HR.out.2.2))
   go_roundw
   case rel=>exact⟨j+1,k3,K3,rfl,HK3.out,by omega,by omega,by omega,by go_num,hM.trans (hM2.trans hM3)⟩
   case measure=>simp [intOf];omega
  ·
   obtain rfl:j=n:=by omega
   go_wp2;go_ret
   exact⟨K,y,rfl,HK,hy1,hy2,hM⟩
theorem mkDb(lo hi g n c z:Nat)(T:Nat->Td)(Z:Int)(hZ:Z=(z:Int))(w:World)(h:STb w lo hi g n T)(hz0:0<z)(hz:z+n * 3298540000000<9000000000000000000)(hn:n<=1048576) :
 Calls Tryz.prog 14 #[.agg #[.slice (some ⟨g,0,none⟩) n c],.int .i64 Z] w fun e w'=>∃ (K:Int) (k:Nat),e=.returned (.int .i64 K)/\Hid (K=(k:Int))/\z<=k/\k<=z+n * 3298540000000/\Mk lo hi w w':=by
 have hb0:=bal w (.cells #[.slice (some ⟨g,0,none⟩) n c] 38);have hM0:=Mk.below (lo:=lo) (hi:=hi) hb0;have HT:=mkTabs lo hi g n c z T Z hZ _ (h.mk hM0) hz0 hz hn;clear hZ h;have c0:(w.alloc (.cells #[.slice (some ⟨g,0,none⟩) n c] 38)).cell? ⟨w.heap.size,0,none⟩=some (.slice (some ⟨g,0,none⟩) n c):=(cell_of_row _ _ 0 _ _ _ (heap_alloc_new w _)).trans rfl;generalize hW:w.alloc (.cells #[.slice (some ⟨g,0,none⟩) n c] 38)=W at HT hM0 c0;subst hW;go_enter Tryz.func14,Tryz.ntmps14
 go_wp2_with (go_at_call 44;refine HT.mono ?_;rintro e w1 ⟨K,k,rfl,HK,hk1,hk2,hM1⟩)
 go_ret
 exact⟨K,k,rfl,HK,hk1,hk2,hM0.trans hM1⟩
theorem mkStm(lo hi z:Nat)(k0:Int)(tb:ByteArray)(a2:Option Addr)(n2 c2:Nat)(a3:Option Addr)(n3 c3:Nat)(col:ByteArray)(a5:Option Addr)(n5 c5:Nat)(a6:Option Addr)(n6 c6 g7 n7 c7:Nat)(m7:Nat->Nat)(Z:Int)(hZ:Z=(z:Int))(w:World)(h2:WR w lo hi 113 2 a2 n2)(h3:WR w lo hi 66 3 a3 n3)(h5:WR w lo hi 108 3 a5 n5)(h6:WR w lo hi 108 3 a6 n6)(h7:SR w lo hi 42 108 g7 n7 m7)(hhi:hi<=w.heap.size)(l2:n2<=1048576)(l3:n3<=1048576)(l5:n5<=1048576)(l6:n6<=1048576)(l7:n7<=1048576)(hz0:0<z)(hz:z<8000000000000000000) :
 Calls Tryz.prog 15 #[.agg #[.int .i64 k0,.string tb,.slice a2 n2 c2,.slice a3 n3 c3,.string col,.slice a5 n5 c5,.slice a6 n6 c6,.slice (some ⟨g7,0,none⟩) n7 c7],.int .i64 Z] w fun e w'=>∃ (K:Int) (k:Nat),e=.returned (.int .i64 K)/\Hid (K=(k:Int))/\z<=k/\Mk lo hi w w':=by
 have HQ:Hid ((w.alloc (.cells #[.int .i64 k0,.string tb,.slice a2 n2 c2,.slice a3 n3 c3,.string col,.slice a5 n5 c5,.slice a6 n6 c6,.slice (some ⟨g7,0,none⟩) n7 c7] 45)).heap[w.heap.size]?=some (.cells #[.int .i64 k0,.string tb,.slice a2 n2 c2,.slice a3 n3 c3,.string col,.slice a5 n5 c5,.slice a6 n6 c6,.slice (some ⟨g7,0,none⟩) n7 c7] 45 (0,0))):=heap_alloc_new w _;have hM0:=Mk.below (lo:=lo) (hi:=hi) (bal w (.cells #[.int .i64 k0,.string tb,.slice a2 n2 c2,.slice a3 n3 c3,.string col,.slice a5 n5 c5,.slice a6 n6 c6,.slice (some ⟨g7,0,none⟩) n7 c7] 45));have H1:=mkCl lo hi a2 n2 c2 z Z hZ _ (h2.mk hM0) hz0 (by omega);obtain⟨q0,q1,q2,q3,q4,q5,q6,q7⟩:=box8 HQ.out;clear hZ;go_enter Tryz.func15,Tryz.ntmps15
 go_wp2_with (first | (go_at_call 48;have _h:=hM4;refine(mkOuts lo hi g7 n7 c7 (z+2 * n2+3 * n3+3 * n5+3 * n6) m7 K4 HK4.out _ (h7.mk (hM0.trans hM4) hardI) (by omega) (by omega) l7).mono ?_;rintro e w5 ⟨K5,k5,rfl,HK5,hk5,-,hM5⟩) | (go_at_call 47;have _h:=hM3;refine(mkIt lo hi a6 n6 c6 (z+2 * n2+3 * n3+3 * n5) K3 HK3.out _ (h6.mk (hM0.trans hM3)) (by omega) (by omega)).mono ?_;rintro e w4 ⟨K4,rfl,HK4,hM4'⟩;have hM4:=hM3.trans hM4';obtain⟨q0,q1,q2,q3,q4,q5,q6,q7⟩:=box8 (hM4.row HQ.out (Or.inr hhi))) | (go_at_call 47;have _h:=hM2;refine(mkIt lo hi a5 n5 c5 (z+2 * n2+3 * n3) K2 HK2.out _ (h5.mk (hM0.trans hM2)) (by omega) (by omega)).mono ?_;rintro e w3 ⟨K3,rfl,HK3,hM3'⟩;have hM3:=hM2.trans hM3';obtain⟨q0,q1,q2,q3,q4,q5,q6,q7⟩:=box8 (hM3.row HQ.out (Or.inr hhi))) | (go_at_call 46;have _h:=hM1;refine(mkVl lo hi a3 n3 c3 (z+2 * n2) K1 HK1.out _ (h3.mk (hM0.trans hM1)) (by omega) (by omega)).mono ?_;rintro e w2 ⟨K2,rfl,HK2,hM2'⟩;have hM2:=hM1.trans hM2';obtain⟨q0,q1,q2,q3,q4,q5,q6,q7⟩:=box8 (hM2.row HQ.out (Or.inr hhi))) | (go_at_call 45;refine H1.mono ?_;rintro e w1 ⟨K1,rfl,HK1,hM1⟩;obtain⟨q0,q1,q2,q3,q4,q5,q6,q7⟩:=box8 (hM1.row HQ.out (Or.inr hhi))))
 go_ret
 exact⟨K5,k5,rfl,HK5,by omega,hM0.trans (hM4.trans hM5)⟩
end Go.Proofs.YtgeiamgeclbiaaaGreatDoor
