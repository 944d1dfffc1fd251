import Derived.Test.YtfnfdllflgmhnaaGreatDoorVg
open Go renaming Calls → XR, World → ο, bodyPost_ret → XL, heap_alloc_new → η
open Go.Proofs.Tryz renaming prog → μ
open Go.RowKit renaming Below → υ
open Go.World renaming size_alloc → ω
open List renaming length_append → XQ, length_take → Xf
open Option renaming none → ν, some → ς
open Or renaming inl → Xc, inr → Xi
namespace Go.Proofs.YtfnfdllflgmhnaaGreatDoor
open Go.RowKit Go.Maps Go.WideMaps
set_option maxRecDepth 20000
set_option maxHeartbeats 8000000
theorem TA{C:Nat->Clm}{n:Nat}{R:Nat->Itm}{t:Itm}{a:List Itm}{tl:List Int}(hR:∀ j,j<n->CU (R j)/\(R j).o=(C j).t)(ho:1<=t.o/\t.o<=13)(h:(Bk C n t tl).2=0):(ES C n R t a).o=(Bk C n t tl).1/\CU (ES C n R t a):=by
 by_cases h1:t.o=1
 ·
  have e1:ES C n R t a=⟨1,t.m,⟨#[]⟩⟩:=by unfold ES;rw [if_pos h1]
  unfold Bk at h ⊢;rw [if_neg (by omega),if_neg (by omega),if_neg (by omega),if_neg (by omega),if_neg (by omega)] at h ⊢;rw [e1];split at h
  ·
   rename_i hh
   rw [if_pos hh];exact⟨rfl,Xc ⟨rfl,rfl⟩⟩
  · exact absurd h (by simp)
 by_cases h2:t.o=2
 ·
  have e1:ES C n R t a=⟨2,0,t.s⟩:=by unfold ES;rw [if_neg h1,if_pos h2]
  rw [e1];unfold Bk;rw [if_pos h2];exact⟨rfl,Xi ⟨rfl,rfl⟩⟩
 by_cases h3:t.o=3
 ·
  unfold Bk at h ⊢;unfold ES;rw [if_neg h2,if_pos h3] at h ⊢;rw [if_neg h1,if_neg h2,if_pos h3];rcases hc:Bo C t.s n with _ | j
  · rw [hc] at h;simp at h
  · exact⟨(hR j (Cu hc).1).2,(hR j (Cu hc).1).1⟩
 have e1:ES C n R t a=DS t.o (a.getD 0 d0) (a.getD 1 d0):=by unfold ES;rw [if_neg h1,if_neg h2,if_neg h3]
 rw [e1];unfold Bk at h ⊢;rw [if_neg h2,if_neg h3] at h ⊢;by_cases h12:t.o=12
 ·
  rw [if_neg (by omega),if_pos h12] at h ⊢;have e2:DS t.o (a.getD 0 d0) (a.getD 1 d0)=⟨2,0,(a.getD 0 d0).s ++ (a.getD 1 d0).s⟩:=by rw [h12];simp [DS]
  rw [e2];split at h
  · rename_i hh;rw [if_pos hh];exact⟨rfl,Xi ⟨rfl,rfl⟩⟩
  · exact absurd h (by simp)
 have e2:(DS t.o (a.getD 0 d0) (a.getD 1 d0)).o=1/\(DS t.o (a.getD 0 d0) (a.getD 1 d0)).s=⟨#[]⟩:=by
  have:t.o=4∨t.o=5∨t.o=6∨t.o=7∨t.o=8∨t.o=9∨t.o=10∨t.o=11∨t.o=13:=by omega
  rcases this with e | e | e | e | e | e | e | e | e <;> rw [e] <;> exact⟨rfl,rfl⟩
 refine⟨?_,Xc e2⟩;rw [e2.1];by_cases h7:t.o=7∨t.o=8
 ·
  rw [if_pos h7] at h ⊢;split at h
  · rename_i hh;rw [if_pos hh]
  · exact absurd h (by simp)
 rw [if_neg h7,if_neg h12] at h ⊢;by_cases h13:t.o=13
 ·
  rw [if_pos h13] at h ⊢;split at h
  · rename_i hh;rw [if_pos hh]
  · exact absurd h (by simp)
 rw [if_neg h13] at h ⊢;split at h
 · rename_i hh;rw [if_pos hh]
 · exact absurd h (by simp)
def QM(L:List Itm)(tl:List Int):Prop:=L.length=tl.length/\∀ i,i<L.length->(L.getD i d0).o=tl.getD i 0/\CU (L.getD i d0)
theorem KZ{C:Nat->Clm}{n:Nat}{I:Nat->Itm}{m k:Nat}(h:(ck C n I m).2=0)(hk:k<=m):(ck C n I k).2=0:=by
 rcases Classical.em ((ck C n I k).2=0) with e | e
 · exact e
 · have:=D4 (C:=C) (n:=n) (I:=I) e m hk;rw [this] at h;exact h
theorem KY{C:Nat->Clm}{n:Nat}{I:Nat->Itm}{k:Nat}(h:(ck C n I (k+1)).2=0)(h0:(ck C n I k).2=0):(LY C n (I k) (ck C n I k).1).2=0/\(ck C n I (k+1)).1=(ck C n I k).1.take ((ck C n I k).1.length - DZ (I k).o) ++ [(LY C n (I k) (ck C n I k).1).1]:=by
 rw [ck,if_neg (by simp [h0])] at h ⊢;by_cases e:(LY C n (I k) (ck C n I k).1).2=0
 · rw [if_neg (by simp [e])];exact⟨e,rfl⟩
 · rw [if_pos e] at h;exact absurd h e
theorem GU{α:Type}(L:List α)(j i:Nat)(y:α)(h:i<j):(L.take j).getD i y=L.getD i y:=by
 simp [h]
theorem WH{α:Type}(A B:List α)(i:Nat)(y:α)(h:i<A.length):(A ++ B).getD i y=A.getD i y:=by simp [List.getElem?_append_left h]
theorem WG{α:Type}(A B:List α)(i:Nat)(y:α)(h:A.length<=i):(A ++ B).getD i y=B.getD (i - A.length) y:=by simp [List.getElem?_append_right h]
theorem Tn{C:Nat->Clm}{n:Nat}{R I:Nat->Itm}{m:Nat}{x:Int}(hR:∀ j,j<n->CU (R j)/\(R j).o=(C j).t)(hx:ex I m=ς x)(hck:(ck C n I m).2=0):∀ k,k<=m->QM (vl C n R I k) (ck C n I k).1:=by
 intro k;induction k with
 | zero=>intro _;exact⟨rfl,λi hi=>by simp [vl] at hi⟩
 | succ k ih=>
  intro hk;obtain⟨hl,ht⟩:=ih (by omega);obtain⟨d,hd,hok,had⟩:=F1 hx (show k<m by omega);obtain⟨h1,h2⟩:=KY (KZ hck hk) (KZ hck (show k<=m by omega));rw [h2,vl];obtain⟨h3,h4⟩:=TA (R:=R) (a:=(vl C n R I k).drop ((vl C n R I k).length - DZ (I k).o)) hR (DN hok) h1;rw [hl];refine⟨by simp [hl],λi hi=>?_⟩;simp only [XQ,Xf,List.length_cons,List.length_nil] at hi
  by_cases e:i<(ck C n I k).1.length - DZ (I k).o
  · rw [WH _ _ _ _ (by rw [Xf];omega),WH _ _ _ _ (by rw [Xf];omega),GU _ _ _ _ e,GU _ _ _ _ e];exact ht i (by omega)
  ·
   have e2:i=(ck C n I k).1.length - DZ (I k).o:=by omega
   subst e2;rw [WG _ _ _ _ (by rw [Xf];omega),WG _ _ _ _ (by rw [Xf];omega)];simp only [Xf]
   rw [show (ck C n I k).1.length - DZ (I k).o - min ((ck C n I k).1.length - DZ (I k).o) (vl C n R I k).length=0 from by omega,show (ck C n I k).1.length - DZ (I k).o - min ((ck C n I k).1.length - DZ (I k).o) (ck C n I k).1.length=0 from by omega]
   rw [hl] at h3 h4;exact⟨h3,h4⟩
theorem Ve(n:Nat)(C:Nat->Clm)(mb:Nat)(ar:Option Addr)(cr:Nat)(R:Nat->Itm)(p5 p3:Nat)(o mm:Int)(s:ByteArray)(a:Option Addr)(c:Nat)(A:List Itm)(w:ο)(hP:PlAt w mb n C)(hdp:∀ k,k<n->Ah C (C k).s k=false)(hR:IL w ar n R)(h5:w.cell? ⟨p5,0,ν⟩=ς (.slice ar n cr))(h31:w.cell? ⟨p3,1,ν⟩=ς (.map (ς mb)))
 (hA:IL w a A.length (λi=>A.getD i d0)) (hm:Aj o<=A.length) (hm2:A.length<=1048576) (ho:1<=o/\o<=13) (hcol:o=3->∃ q,Bo C s n=ς q) (hgo:(o=7∨o=8)->CU (A.getD 0 d0)/\CU (A.getD 1 d0)/\(A.getD 0 d0).o=(A.getD 1 d0).o) (hsz:∀ i,i<A.length->(A.getD i d0).s.size<=1000000) (hs:s.size<=1048576) :
 XR μ 166 #[.agg #[.int .i64 o,.int .i64 mm,.string s],.slice a A.length c,.pointer (ς ⟨p5,0,ν⟩),.pointer (ς ⟨p3,0,ν⟩)] w λe w'=>e=.returned (.tuple #[.agg #[.int .i64 (ES C n R ⟨o,mm,s⟩ A).o,.int .i64 (ES C n R ⟨o,mm,s⟩ A).m,.string (ES C n R ⟨o,mm,s⟩ A).s],.int .i64 0])/\υ w.heap.size w w':=by
 obtain⟨x,hx⟩:∃ x,ES C n R ⟨o,mm,s⟩ A=x:=⟨_,rfl⟩;rw [hx];have hbU:υ w.heap.size w ((w.alloc (.cells #[.int .i64 o,.int .i64 mm,.string s] 135)).alloc (.cells #[.int .i64 0,.int .i64 0,.string ⟨#[]⟩] 94)):=AA (AE _ _) (AE _ _);have hrr:((w.alloc (.cells #[.int .i64 o,.int .i64 mm,.string s] 135)).alloc (.cells #[.int .i64 0,.int .i64 0,.string ⟨#[]⟩] 94)).heap[w.heap.size+1]?=ς (.cells #[.int .i64 0,.int .i64 0,.string ⟨#[]⟩] 94 (0,0)):=by
  have q:=η (w.alloc (.cells #[.int .i64 o,.int .i64 mm,.string s] 135)) (.cells #[.int .i64 0,.int .i64 0,.string ⟨#[]⟩] 94);rw [ω] at q;exact q
 have g5:=AB hbU h5;have g3:=AB hbU h31;by_cases h3:o=3
 ·
  subst h3;obtain⟨q,hq⟩:=hcol rfl;have hxR:R q=x:=by rw [←hx];simp [ES,hq]
  have hqn:=(Cu hq).1;have HAT:Hid ((pl C n).atKey (Cf s) (.lit (.int .i64 0))=.lit (.int .i64 q)):=Mt hdp hq _;have hkey:keyOf μ 9 (.string s)=ς (Cf s):=keyOf_string_mk Tryz.underlying9 (by unfold maxLen;omega);have hP3:=hP.later hbU;obtain⟨br,offr,rfl,y0,y1,y2,-⟩:=hR.later hbU q hqn;rw [hxR] at y0 y1 y2;have hq0:(0:Int)<=q:=by omega
  have hqn2:(q:Int)<n:=by omega
  obtain⟨r0_,r1_,r2_,f0,f1,f2⟩:=AX hrr;obtain⟨xo,xm,xs⟩:=x;have HRX:Hid (((w.alloc (.cells #[.int .i64 3,.int .i64 mm,.string s] 135)).alloc (.cells #[.int .i64 xo,.int .i64 xm,.string xs] 94)).heap[w.heap.size+1]?=ς (.cells #[.int .i64 xo,.int .i64 xm,.string xs] 94 (0,0))):=by
   have q:=η (w.alloc (.cells #[.int .i64 3,.int .i64 mm,.string s] 135)) (.cells #[.int .i64 xo,.int .i64 xm,.string xs] 94);rw [ω] at q;exact q
  clear hx hxR hq hgo hcol;go_enter Tryz.func166,Tryz.ntmps166
  go_wp2_with (at_lookup;refine wpList_lookup_own_int _ rfl _ _ 115 rfl 9 3 .i64 K6 Tryz.underlying115 Tryz.underlying3 (LO _) mb n (pl C n) rfl hP3 _ _ rfl hkey ?_;intro cv hat hwc;rw [HAT.out] at hat;obtain rfl:(q:Int)=cv:=(by simpa using hat);clear hat hwc)
  refine XL (AF Tryz.results166 _ _ (w.heap.size+1) 94 _ (0,0) _ rfl HRX.out Tryz.underlying94 rfl (by kernel_rfl)) rfl ?_;exact⟨rfl,AA (AE _ _) (AE _ _)⟩
 ·
  have n3:(o == 3)=false:=by simpa using h3
  have hxW:GL ⟨o,mm,s⟩ (A.getD 0 d0) (A.getD 1 d0)=x:=by
   rw [←hx];unfold GL ES;simp only
   rw [if_neg h3]
  have HRV:=Vl o mm s a A.length c (λi=>A.getD i d0) _ (hA.later hbU) hm hm2 ho h3 hgo hsz;simp only [hxW] at HRV
  clear hx hxW hgo hcol h3;obtain⟨xo,xm,xs⟩:=x;simp only at HRV
  go_enter Tryz.func166,Tryz.ntmps166
  go_wp2_with (go_at_call 167;refine HRV.mono ?_;rintro e w2 ⟨rfl,hb2⟩;have hr2:=AC hrr hb2;obtain⟨r0_,r1_,r2_,f0,f1,f2⟩:=AX hr2)
  refine XL (AF Tryz.results166 _ _ (w.heap.size+1) 94 _ (0,0) _ rfl (Cz hr2 _ _ _) Tryz.underlying94 rfl (by kernel_rfl)) rfl ?_;exact⟨rfl,BB (AA hbU hb2) (by omega) _ _ _⟩
