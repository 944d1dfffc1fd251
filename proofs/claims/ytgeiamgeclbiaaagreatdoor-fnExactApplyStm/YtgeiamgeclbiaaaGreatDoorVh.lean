import Derived.Test.YtgeiamgeclbiaaaGreatDoorVg
namespace Go.Proofs.YtgeiamgeclbiaaaGreatDoor
open Go.RowKit Go.Maps Go.WideMaps
set_option maxRecDepth 20000
set_option maxHeartbeats 8000000
theorem itV_ty{C:Nat->Clm}{n:Nat}{R:Nat->Itm}{t:Itm}{a:List Itm}{tl:List Int}(hR:∀ j,j<n->goodV (R j)/\(R j).o=(C j).t)(ho:1<=t.o/\t.o<=13)(h:(tyI C n t tl).2=0):(itV C n R t a).o=(tyI C n t tl).1/\goodV (itV C n R t a):=by
 by_cases h1:t.o=1
 ·
  have e1:itV C n R t a=⟨1,t.m,⟨#[]⟩⟩:=by unfold itV;rw [if_pos h1]
  unfold tyI at h ⊢;rw [if_neg (by omega),if_neg (by omega),if_neg (by omega),if_neg (by omega),if_neg (by omega)] at h ⊢;rw [e1];split at h
  ·
   rename_i hh
   rw [if_pos hh];exact⟨rfl,Or.inl ⟨rfl,rfl⟩⟩
  · exact absurd h (by simp)
 by_cases h2:t.o=2
 ·
  have e1:itV C n R t a=⟨2,0,t.s⟩:=by unfold itV;rw [if_neg h1,if_pos h2]
  rw [e1];unfold tyI;rw [if_pos h2];exact⟨rfl,Or.inr ⟨rfl,rfl⟩⟩
 by_cases h3:t.o=3
 ·
  unfold tyI at h ⊢;unfold itV;rw [if_neg h2,if_pos h3] at h ⊢;rw [if_neg h1,if_neg h2,if_pos h3];rcases hc:colI C t.s n with _ | j
  · rw [hc] at h;simp at h
  · exact⟨(hR j (colI_lt hc).1).2,(hR j (colI_lt hc).1).1⟩
 have e1:itV C n R t a=appI t.o (a.getD 0 d0) (a.getD 1 d0):=by unfold itV;rw [if_neg h1,if_neg h2,if_neg h3]
 rw [e1];unfold tyI at h ⊢;rw [if_neg h2,if_neg h3] at h ⊢;by_cases h12:t.o=12
 ·
  rw [if_neg (by omega),if_pos h12] at h ⊢;have e2:appI t.o (a.getD 0 d0) (a.getD 1 d0)=⟨2,0,(a.getD 0 d0).s ++ (a.getD 1 d0).s⟩:=by rw [h12];simp [appI]
  rw [e2];split at h
  · rename_i hh;rw [if_pos hh];exact⟨rfl,Or.inr ⟨rfl,rfl⟩⟩
  · exact absurd h (by simp)
 have e2:(appI t.o (a.getD 0 d0) (a.getD 1 d0)).o=1/\(appI t.o (a.getD 0 d0) (a.getD 1 d0)).s=⟨#[]⟩:=by
  have:t.o=4∨t.o=5∨t.o=6∨t.o=7∨t.o=8∨t.o=9∨t.o=10∨t.o=11∨t.o=13:=by omega
  rcases this with e | e | e | e | e | e | e | e | e <;> rw [e] <;> exact⟨rfl,rfl⟩
 refine⟨?_,Or.inl e2⟩;rw [e2.1];by_cases h7:t.o=7∨t.o=8
 ·
  rw [if_pos h7] at h ⊢;split at h
  · rename_i hh;rw [if_pos hh]
  · exact absurd h (by simp)
 rw [if_neg h7,if_neg h12] at h ⊢;by_cases h13:t.o=13
 ·
  rw [if_pos h13] at h ⊢;split at h
  · rename_i hh;rw [if_pos hh]
  · exact absurd h (by simp)
 rw [if_neg h13] at h ⊢;split at h
 · rename_i hh;rw [if_pos hh]
 · exact absurd h (by simp)
def typed(L:List Itm)(tl:List Int):Prop:=L.length=tl.length/\∀ i,i<L.length->(L.getD i d0).o=tl.getD i 0/\goodV (L.getD i d0)
theorem ck_ok{C:Nat->Clm}{n:Nat}{I:Nat->Itm}{m k:Nat}(h:(ck C n I m).2=0)(hk:k<=m):(ck C n I k).2=0:=by
 rcases Classical.em ((ck C n I k).2=0) with e | e
 · exact e
 · have:=ck_fail (C:=C) (n:=n) (I:=I) e m hk;rw [this] at h;exact h
theorem ck_step{C:Nat->Clm}{n:Nat}{I:Nat->Itm}{k:Nat}(h:(ck C n I (k+1)).2=0)(h0:(ck C n I k).2=0):(stp C n (I k) (ck C n I k).1).2=0/\(ck C n I (k+1)).1=(ck C n I k).1.take ((ck C n I k).1.length - arN (I k).o) ++ [(stp C n (I k) (ck C n I k).1).1]:=by
 rw [ck,if_neg (by simp [h0])] at h ⊢;by_cases e:(stp C n (I k) (ck C n I k).1).2=0
 · rw [if_neg (by simp [e])];exact⟨e,rfl⟩
 · rw [if_pos e] at h;exact absurd h e
theorem take_getD{α:Type}(L:List α)(j i:Nat)(y:α)(h:i<j):(L.take j).getD i y=L.getD i y:=by
 simp [h]
theorem gd_l{α:Type}(A B:List α)(i:Nat)(y:α)(h:i<A.length):(A ++ B).getD i y=A.getD i y:=by simp [List.getElem?_append_left h]
theorem gd_r{α:Type}(A B:List α)(i:Nat)(y:α)(h:A.length<=i):(A ++ B).getD i y=B.getD (i - A.length) y:=by simp [List.getElem?_append_right h]
theorem vl_ty{C:Nat->Clm}{n:Nat}{R I:Nat->Itm}{m:Nat}{x:Int}(hR:∀ j,j<n->goodV (R j)/\(R j).o=(C j).t)(hx:ex I m=some x)(hck:(ck C n I m).2=0):∀ k,k<=m->typed (vl C n R I k) (ck C n I k).1:=by
 intro k;induction k with
 | zero=>intro _;exact⟨rfl,fun i hi=>by simp [vl] at hi⟩
 | succ k ih=>
  intro hk;obtain⟨hl,ht⟩:=ih (by omega);obtain⟨d,hd,hok,had⟩:=ex_at hx (show k<m by omega);obtain⟨h1,h2⟩:=ck_step (ck_ok hck hk) (ck_ok hck (show k<=m by omega));rw [h2,vl];obtain⟨h3,h4⟩:=itV_ty (R:=R) (a:=(vl C n R I k).drop ((vl C n R I k).length - arN (I k).o)) hR (okItem_op hok) h1;rw [hl];refine⟨by simp [hl],fun i hi=>?_⟩;simp only [List.length_append,List.length_take,List.length_cons,List.length_nil] at hi
  by_cases e:i<(ck C n I k).1.length - arN (I k).o
  · rw [gd_l _ _ _ _ (by rw [List.length_take];omega),gd_l _ _ _ _ (by rw [List.length_take];omega),take_getD _ _ _ _ e,take_getD _ _ _ _ e];exact ht i (by omega)
  ·
   have e2:i=(ck C n I k).1.length - arN (I k).o:=by omega
   subst e2;rw [gd_r _ _ _ _ (by rw [List.length_take];omega),gd_r _ _ _ _ (by rw [List.length_take];omega)];simp only [List.length_take]
   rw [show (ck C n I k).1.length - arN (I k).o - min ((ck C n I k).1.length - arN (I k).o) (vl C n R I k).length=0 from by omega,show (ck C n I k).1.length - arN (I k).o - min ((ck C n I k).1.length - arN (I k).o) (ck C n I k).1.length=0 from by omega]
   rw [hl] at h3 h4;exact⟨h3,h4⟩
theorem iVal1(n:Nat)(C:Nat->Clm)(mb:Nat)(ar:Option Addr)(cr:Nat)(R:Nat->Itm)(p5 p3:Nat)(o mm:Int)(s:ByteArray)(a:Option Addr)(c:Nat)(A:List Itm)(w:World)(hP:PlAt w mb n C)(hdp:∀ k,k<n->hasCol C (C k).s k=false)(hR:IL w ar n R)(h5:w.cell? ⟨p5,0,none⟩=some (.slice ar n cr))(h31:w.cell? ⟨p3,1,none⟩=some (.map (some mb)))
 (hA:IL w a A.length (fun i=>A.getD i d0)) (hm:arity o<=A.length) (hm2:A.length<=1048576) (ho:1<=o/\o<=13) (hcol:o=3->∃ q,colI C s n=some q) (hgo:(o=7∨o=8)->goodV (A.getD 0 d0)/\goodV (A.getD 1 d0)/\(A.getD 0 d0).o=(A.getD 1 d0).o) (hsz:∀ i,i<A.length->(A.getD i d0).s.size<=1000000) (hs:s.size<=1048576) :
 Calls Tryz.prog 135 #[.agg #[.int .i64 o,.int .i64 mm,.string s],.slice a A.length c,.pointer (some ⟨p5,0,none⟩),.pointer (some ⟨p3,0,none⟩)] w fun e w'=>e=.returned (.tuple #[.agg #[.int .i64 (itV C n R ⟨o,mm,s⟩ A).o,.int .i64 (itV C n R ⟨o,mm,s⟩ A).m,.string (itV C n R ⟨o,mm,s⟩ A).s],.int .i64 0])/\Below w.heap.size w w':=by
 obtain⟨x,hx⟩:∃ x,itV C n R ⟨o,mm,s⟩ A=x:=⟨_,rfl⟩;rw [hx];have hbU:Below w.heap.size w ((w.alloc (.cells #[.int .i64 o,.int .i64 mm,.string s] 108)).alloc (.cells #[.int .i64 0,.int .i64 0,.string ⟨#[]⟩] 66)):=bstep (bal _ _) (bal _ _);have hrr:((w.alloc (.cells #[.int .i64 o,.int .i64 mm,.string s] 108)).alloc (.cells #[.int .i64 0,.int .i64 0,.string ⟨#[]⟩] 66)).heap[w.heap.size+1]?=some (.cells #[.int .i64 0,.int .i64 0,.string ⟨#[]⟩] 66 (0,0)):=by
  have q:=heap_alloc_new (w.alloc (.cells #[.int .i64 o,.int .i64 mm,.string s] 108)) (.cells #[.int .i64 0,.int .i64 0,.string ⟨#[]⟩] 66);rw [World.size_alloc] at q;exact q
 have g5:=keepB hbU h5;have g3:=keepB hbU h31;by_cases h3:o=3
 ·
  subst h3;obtain⟨q,hq⟩:=hcol rfl;have hxR:R q=x:=by rw [←hx];simp [itV,hq]
  have hqn:=(colI_lt hq).1;have HAT:Hid ((pl C n).atKey (litS s) (.lit (.int .i64 0))=.lit (.int .i64 q)):=pl_at hdp hq _;have hkey:keyOf Tryz.prog 9 (.string s)=some (litS s):=keyOf_string_mk Tryz.underlying9 (by unfold maxLen;omega);have hP3:=hP.later hbU;obtain⟨br,offr,rfl,y0,y1,y2,-⟩:=hR.later hbU q hqn;rw [hxR] at y0 y1 y2;have hq0:(0:Int)<=q:=by omega
  have hqn2:(q:Int)<n:=by omega
  obtain⟨r0_,r1_,r2_,f0,f1,f2⟩:=box3 hrr;obtain⟨xo,xm,xs⟩:=x;have HRX:Hid (((w.alloc (.cells #[.int .i64 3,.int .i64 mm,.string s] 108)).alloc (.cells #[.int .i64 xo,.int .i64 xm,.string xs] 66)).heap[w.heap.size+1]?=some (.cells #[.int .i64 xo,.int .i64 xm,.string xs] 66 (0,0))):=by
   have q:=heap_alloc_new (w.alloc (.cells #[.int .i64 3,.int .i64 mm,.string s] 108)) (.cells #[.int .i64 xo,.int .i64 xm,.string xs] 66);rw [World.size_alloc] at q;exact q
  clear hx hxR hq hgo hcol;go_enter Tryz.func135,Tryz.ntmps135
  go_wp2_with (at_lookup;refine wpList_lookup_own_int _ rfl _ _ 77 rfl 9 3 .i64 lawS Tryz.underlying77 Tryz.underlying3 (zeroI _) mb n (pl C n) rfl hP3 _ _ rfl hkey ?_;intro cv hat hwc;rw [HAT.out] at hat;obtain rfl:(q:Int)=cv:=(by simpa using hat);clear hat hwc)
  refine bodyPost_ret (results_cell_tmp Tryz.results135 _ _ (w.heap.size+1) 66 _ (0,0) _ rfl HRX.out Tryz.underlying66 rfl (by kernel_rfl)) rfl ?_;exact⟨rfl,bstep (bal _ _) (bal _ _)⟩
 ·
  have n3:(o == 3)=false:=by simpa using h3
  have hxW:itW ⟨o,mm,s⟩ (A.getD 0 d0) (A.getD 1 d0)=x:=by
   rw [←hx];unfold itW itV;simp only
   rw [if_neg h3]
  have HRV:=iResV o mm s a A.length c (fun i=>A.getD i d0) _ (hA.later hbU) hm hm2 ho h3 hgo hsz;simp only [hxW] at HRV
  clear hx hxW hgo hcol h3;obtain⟨xo,xm,xs⟩:=x;simp only at HRV
  go_enter Tryz.func135,Tryz.ntmps135
  go_wp2_with (go_at_call 136;refine HRV.mono ?_;rintro e w2 ⟨rfl,hb2⟩;have hr2:=rowL hrr hb2;obtain⟨r0_,r1_,r2_,f0,f1,f2⟩:=box3 hr2)
  refine bodyPost_ret (results_cell_tmp Tryz.results135 _ _ (w.heap.size+1) 66 _ (0,0) _ rfl (row3 hr2 _ _ _) Tryz.underlying66 rfl (by kernel_rfl)) rfl ?_;exact⟨rfl,bset3 (bstep hbU hb2) (by omega) _ _ _⟩
end Go.Proofs.YtgeiamgeclbiaaaGreatDoor
