import Derived.Test.YtgeiamgeclbiaaaGreatDoorUd
import Derived.Test.YtgeiamgeclbiaaaGreatDoorUc
import Derived.Test.YtgeiamgeclbiaaaGreatDoorUa
import Derived.Deep.RegionHeld3
import Derived.Test.YtgeiamgeclbiaaaGreatDoorNlx
namespace Go.Proofs.YtgeiamgeclbiaaaGreatDoor
open Go.RowKit Go.Maps Go.WideMaps
def d0:Itm:=⟨0,0,⟨#[]⟩⟩
def itV(C:Nat->Clm)(n:Nat)(R:Nat->Itm)(t:Itm)(a:List Itm):Itm:=
 if t.o=1 then ⟨1,t.m,⟨#[]⟩⟩
 else if t.o=2 then ⟨2,0,t.s⟩
 else if t.o=3 then (match colI C t.s n with
  | some j=>R j
  | none=>d0)
 else appI t.o (a.getD 0 d0) (a.getD 1 d0)
def vl(C:Nat->Clm)(n:Nat)(R:Nat->Itm)(I:Nat->Itm):Nat->List Itm
 | 0=>[]
 | k+1=>(vl C n R I k).take ((vl C n R I k).length - arN (I k).o) ++ [itV C n R (I k) ((vl C n R I k).drop ((vl C n R I k).length - arN (I k).o))]
def vlR(C:Nat->Clm)(n:Nat)(R:Nat->Itm)(I:Nat->Itm)(m:Nat):Itm:=(vl C n R I m).getD 0 d0
theorem vl_len{C:Nat->Clm}{n:Nat}{R I:Nat->Itm}:∀ {k:Nat} {d:Int},ex I k=some d->(((vl C n R I k).length:Nat):Int)=d:=by
 intro k;induction k with
 | zero=>intro d h;simp [ex] at h;simp [vl,h]
 | succ k ih=>
  intro d h;rw [ex] at h;split at h
  · cases h
  ·
   rename_i x hx
   split at h
   ·
    rename_i hc
    cases h
    rw [vl];have:=ih hx;have ha:=arN_eq (I k).o;have hl:=arity_le (I k).o;simp only [List.length_append,List.length_take,List.length_cons,List.length_nil]
    omega
   · cases h
def sumS(L:List Itm):Nat:=(L.map fun x=>x.s.size).sum
theorem sumS_app(A B:List Itm):sumS (A ++ B)=sumS A+sumS B:=by simp [sumS]
theorem sumS_cons(x:Itm)(B:List Itm):sumS (x :: B)=x.s.size+sumS B:=by simp [sumS]
theorem sumS_split(L:List Itm)(j:Nat):sumS L=sumS (L.take j)+sumS (L.drop j):=by rw [←sumS_app,List.take_append_drop]
theorem sumS_mem{L:List Itm}{k:Nat}(h:k<L.length):(L.getD k d0).s.size<=sumS L:=by
 have e:L.getD k d0=L[k]:=by simp [h]
 rw [e,sumS_split L k,List.drop_eq_getElem_cons h,sumS_cons];omega
theorem sum_two(a:List Itm):(a.getD 0 d0).s.size+(a.getD 1 d0).s.size<=sumS a:=by
 match a with
 | []=>exact Nat.le_refl _
 | [x]=>exact Nat.le_refl _
 | x :: y :: r=>
  have:sumS (x :: y :: r)=x.s.size+(y.s.size+sumS r):=by rw [sumS_cons,sumS_cons]
  rw [this];show x.s.size+y.s.size<=_
  omega
theorem emp_size:(⟨#[]⟩:ByteArray).size=0:=rfl
theorem appI_size(o:Int)(x y:Itm):(appI o x y).s.size<=x.s.size+y.s.size:=by
 unfold appI tru;repeat' split
 all_goals simp only [emp_size,ByteArray.size_append]
 all_goals omega
theorem okText_size{s:ByteArray}(h:okText s=true):s.size<=200:=by
 simp only [okText,Bool.and_eq_true,decide_eq_true_eq] at h
 omega
theorem itV_size{C:Nat->Clm}{n:Nat}{R:Nat->Itm}{t:Itm}(hR:∀ j,j<n->(R j).s.size<=200)(hok:okItem t.o t.m t.s=true)(a:List Itm):(itV C n R t a).s.size<=200+sumS a:=by
 unfold itV;split
 · simp only [emp_size];omega
 ·
  rename_i h1
  split
  ·
   rename_i h2
   have:okText t.s=true:=by
    rw [h2] at hok;simp [okItem,btw] at hok
    exact hok.2
   have:=okText_size this;simp only
   omega
  ·
   split
   ·
    split
    ·
     rename_i j hj
     have:=hR j (colI_lt hj).1;omega
    · simp only [d0,emp_size];omega
   · have h1:=appI_size t.o (a.getD 0 d0) (a.getD 1 d0);have h2:=sum_two a;omega
theorem vl_sum{C:Nat->Clm}{n:Nat}{R I:Nat->Itm}(hR:∀ j,j<n->(R j).s.size<=200){m:Nat}{x:Int}(hx:ex I m=some x):∀ k,k<=m->sumS (vl C n R I k)<=200 * k:=by
 intro k;induction k with
 | zero=>intro _;simp [vl,sumS]
 | succ k ih=>
  intro hk;obtain⟨d,hd,hok,had⟩:=ex_at hx (show k<m by omega);have h1:=ih (by omega);have h2:=itV_size (C:=C) (n:=n) (R:=R) hR hok ((vl C n R I k).drop ((vl C n R I k).length - arN (I k).o));have h3:=sumS_split (vl C n R I k) ((vl C n R I k).length - arN (I k).o);rw [vl,sumS_app,sumS_cons];have:sumS []=0:=rfl;omega
theorem ck_col{C:Nat->Clm}{n:Nat}{I:Nat->Itm}{m k:Nat}(hk:k<m)(h:(ck C n I m).2=0)(ho:(I k).o=3):∃ j,colI C (I k).s n=some j:=by
 rcases hc:colI C (I k).s n with _ | j
 ·
  exfalso
  have h0:(ck C n I k).2=0:=by
   rcases Classical.em ((ck C n I k).2=0) with e | e
   · exact e
   · have:=ck_fail (C:=C) (n:=n) (I:=I) e m (by omega);rw [this] at h;exact absurd h e
  have h1:(ck C n I (k+1)).2=3:=by
   rw [ck,if_neg (by simp [h0])];have:(stp C n (I k) (ck C n I k).1).2=3:=by
    unfold stp tyI;rw [if_neg (by omega),if_pos ho,hc]
   rw [if_pos (by omega)];exact this
  have:=ck_fail (C:=C) (n:=n) (I:=I) (k:=k+1) (by omega) m (by omega);rw [this] at h;omega
 · exact⟨j,rfl⟩
def v3(x:Itm):List Value:=[.int .i64 x.o,.int .i64 x.m,.string x.s]
def vals:List Itm->List Value
 | []=>[]
 | x :: L=>v3 x ++ vals L
theorem vals_len:∀ L:List Itm,(vals L).length=L.length * 3
 | []=>rfl
 | x :: L=>by rw [vals,List.length_append,vals_len L];simp [v3];omega
theorem vals_app:∀ A B:List Itm,vals (A ++ B)=vals A ++ vals B
 | [],B=>rfl
 | x :: A,B=>by rw [List.cons_append,vals,vals,vals_app A B,List.append_assoc]
theorem vals_one:∀ L:List Itm,∀ u∈vals L,u.oneCell'=true
 | [],u,hu=>by cases hu
 | x :: L,u,hu=>by
  rw [vals,List.mem_append] at hu;rcases hu with hu | hu
  ·
   simp only [v3,List.mem_cons,List.not_mem_nil,or_false] at hu
   rcases hu with rfl | rfl | rfl <;> rfl
  · exact vals_one L u hu
theorem vals_take(L:List Itm)(j:Nat):vals (L.take j) <+: vals L:=by
 refine⟨vals (L.drop j),?_⟩;rw [←vals_app,List.take_append_drop]
theorem vals_get:∀ {L:List Itm} {k:Nat},k<L.length->(vals L)[k * 3]?=some (.int .i64 (L.getD k d0).o)/\(vals L)[k * 3+1]?=some (.int .i64 (L.getD k d0).m)/\(vals L)[k * 3+2]?=some (.string (L.getD k d0).s)
 | x :: L,0,_=>⟨rfl,rfl,rfl⟩
 | x :: L,k+1,h=>by
  have e:=vals_get (L:=L) (k:=k) (by simpa using h);rw [vals,show (k+1) * 3=(v3 x).length+k * 3 from by simp [v3];omega,Nat.add_assoc,Nat.add_assoc]
  rw [List.getElem?_append_right (by omega),List.getElem?_append_right (by omega),List.getElem?_append_right (by omega)];simpa using e
def Sv(w:World)(base g cap:Nat)(L:List Itm):Prop:=w.ownsRow base 66 3 (.slice (some ⟨g,0,none⟩) L.length cap) L.length (vals L)
theorem Sv.at{w:World}{base g cap:Nat}{L:List Itm}(h:Sv w base g cap L){j:Nat}(hj:j<L.length):w.cell? ⟨g,j * 3,none⟩=some (.int .i64 (L.getD j d0).o)/\w.cell? ⟨g,j * 3+1,none⟩=some (.int .i64 (L.getD j d0).m)/\w.cell? ⟨g,j * 3+2,none⟩=some (.string (L.getD j d0).s):=by
 obtain⟨h1,h2,h3⟩:=vals_get hj;exact⟨(h.cellAt _ (by omega)).trans h1,(h.cellAt _ (by omega)).trans h2,(h.cellAt _ (by omega)).trans h3⟩
theorem Sv.il{w:World}{base g cap:Nat}{L:List Itm}(h:Sv w base g cap L)(hs:sumS L<=1048576)(j:Nat):IL w (some ⟨g,j * 3,none⟩) (L.length - j) (fun i=>L.getD (j+i) d0):=by
 intro k hk;obtain⟨h1,h2,h3⟩:=h.at (j:=j+k) (by omega);have hz:=sumS_mem (L:=L) (k:=j+k) (by omega);refine⟨g,j * 3,rfl,?_,?_,?_,by show (L.getD (j+k) d0).s.size<=_;omega⟩
 · rw [←Nat.add_mul];exact h1
 · rw [←Nat.add_mul];exact h2
 · rw [←Nat.add_mul];exact h3
theorem Sv.news{w:World}{base g cap:Nat}{L:List Itm}(h:Sv w base g cap L){j:Nat}:∀ i u,(vals (L.take j))[i]?=some u->w.cell? ((⟨g,0,none⟩:Addr).add i)=some u:=fun i u hu=>by
 refine h.cells (g:=g) rfl i u ?_;obtain⟨r,hr⟩:=vals_take L j;rw [←hr];obtain⟨hi,-⟩:=List.getElem?_eq_some_iff.1 hu;rw [List.getElem?_append_left hi];exact hu
theorem sv_end{w4:World}{base g4 cap4 j:Nat}{L:List Itm}{r:Itm}(hjl:j<=L.length)(h:w4.ownsRow base 66 3 (.slice (some ⟨g4,0,none⟩) (j+1) cap4) (j+1) (vals (L.take j) ++ v3 r)):(L.take j ++ [r]).length=j+1/\Sv w4 base g4 cap4 (L.take j ++ [r]):=by
 have e1:(L.take j ++ [r]).length=j+1:=by simp;omega
 refine⟨e1,?_⟩;unfold Sv;rw [e1,vals_app];have:vals [r]=v3 r:=by simp [vals]
 rw [this];exact h
theorem own_capV{w:World}{base g cap:Nat}{L:List Itm}(h:Sv w base g cap L):L.length<=cap:=by
 rcases h.2 with ⟨e,-⟩ | ⟨g',cap',cur,e,-,-,h1,-⟩
 · simp at e
 ·
  simp only [Value.slice.injEq,Option.some.injEq,Addr.mk.injEq,and_true,true_and] at e
  omega
theorem gB{W a b:World}{r:Nat}(h:Below W.heap.size W a)(g:a.grownBy b (some r))(hB:W.heap.size<=r):Below W.heap.size W b:=gBs h g (fun x hx=>by have e:r=x:=Option.some.inj hx;omega)
set_option maxRecDepth 20000
set_option maxHeartbeats 8000000
theorem sApp9x(a:Option Addr)(m c:Nat)(I:Nat->Itm)(ox mx:Int)(sx:ByteArray)(oy my:Int)(sy:ByteArray)(w:World)(h:IL w a m I)(hm:2<=m)(hm2:m<=1048576)(hx:I 0=⟨ox,mx,sx⟩)(hy:I 1=⟨oy,my,sy⟩) :
 Calls Tryz.prog 68 #[.int .i64 9,.slice a m c] w fun e w'=>e=.returned (.agg #[.int .i64 1,.int .i64 (tvI (!decide (mx=0) && !decide (my=0))),.string ⟨#[]⟩])/\Below w.heap.size w w':=by
 have i0:(0:Int)<m:=by omega
 have i1:(1:Int)<m:=by omega
 obtain⟨b,off,rfl,c0,c1,c2,hs⟩:=h.later (bal w (.cells #[.int .i64 0,.int .i64 0,.string ⟨#[]⟩] 66)) 0 (by omega);rw [hx] at c0 c1 c2 hs;simp only [Nat.zero_mul,Nat.add_zero] at c0 c1 c2 hs
 obtain⟨b',off',e',d0,d1,d2,hs'⟩:=h.later (w':=((w.alloc (.cells #[.int .i64 0,.int .i64 0,.string ⟨#[]⟩] 66)).alloc (.cells #[.int .i64 ox,.int .i64 mx,.string sx] 66))) (bstep (bal _ _) (bal _ _)) 1 (by omega);rw [hy] at d0 d1 d2 hs';simp only [Nat.one_mul] at d0 d1 d2 hs'
 clear hx hy;obtain⟨rfl,rfl⟩:b=b'/\off=off':=by simpa using e'
 clear e';have hb0:Below w.heap.size w (((w.alloc (.cells #[.int .i64 0,.int .i64 0,.string ⟨#[]⟩] 66)).alloc (.cells #[.int .i64 ox,.int .i64 mx,.string sx] 66)).alloc (.cells #[.int .i64 oy,.int .i64 my,.string sy] 66)):=below3 _ _ _ _;have HR0:Hid ((((w.alloc (.cells #[.int .i64 0,.int .i64 0,.string ⟨#[]⟩] 66)).alloc (.cells #[.int .i64 ox,.int .i64 mx,.string sx] 66)).alloc (.cells #[.int .i64 oy,.int .i64 my,.string sy] 66)).heap[w.heap.size]?=some (.cells #[.int .i64 0,.int .i64 0,.string ⟨#[]⟩] 66 (0,0))):=rowL (rowL (heap_alloc_new w _) (bal _ _)) (bal _ _);by_cases h0:mx=0
 ·
  skip
  have HB:tvI (!decide (mx=0) && !decide (my=0))=tvI false:=by simp [h0]
  rw [HB];clear HB;subst h0;go_enter Tryz.func68,Tryz.ntmps68
  go_wp2_with (first | (go_at_call 113;refine(sTruth false _).mono ?_;rintro e w2 ⟨rfl,hb2⟩;have HR2:=rowL HR0.out hb2;have r0:w2.cell? ⟨w.heap.size,0,none⟩=some (.int .i64 0):=(cell_of_row _ _ 0 _ _ _ HR2).trans rfl;have rf0:w2.frozen? ⟨w.heap.size,0,none⟩=false:=frozen_of_row _ _ 0 _ _ HR2;have r1:w2.cell? ⟨w.heap.size,1,none⟩=some (.int .i64 0):=(cell_of_row _ _ 1 _ _ _ HR2).trans rfl;have rf1:w2.frozen? ⟨w.heap.size,1,none⟩=false:=frozen_of_row _ _ 1 _ _ HR2;have r2:w2.cell? ⟨w.heap.size,2,none⟩=some (.string ⟨#[]⟩):=(cell_of_row _ _ 2 _ _ _ HR2).trans rfl;have rf2:w2.frozen? ⟨w.heap.size,2,none⟩=false:=frozen_of_row _ _ 2 _ _ HR2;have B2:=bstep hb0 hb2))
  exact bodyPost_ret (v:=.agg #[.int .i64 1,.int .i64 (tvI false),.string ⟨#[]⟩]) (results_cell_row Tryz.results68 _ _ w.heap.size 66 _ (0,0) _ rfl (row3 HR2 _ _ _) Tryz.underlying66 rfl (by kernel_rfl)) rfl ⟨rfl,bset3 B2 (Nat.le_refl _) _ _ _⟩
 ·
  have n0:(mx == 0)=false:=by simpa using h0
  have b0:(mx != 0)=true:=by simpa using h0
  by_cases h1:my=0
  ·
   skip
   have HB:tvI (!decide (mx=0) && !decide (my=0))=tvI false:=by simp [h0,h1]
   rw [HB];clear HB;subst h1;go_enter Tryz.func68,Tryz.ntmps68
   go_wp2_with (first | (go_at_call 113;refine(sTruth false _).mono ?_;rintro e w2 ⟨rfl,hb2⟩;have HR2:=rowL HR0.out hb2;have r0:w2.cell? ⟨w.heap.size,0,none⟩=some (.int .i64 0):=(cell_of_row _ _ 0 _ _ _ HR2).trans rfl;have rf0:w2.frozen? ⟨w.heap.size,0,none⟩=false:=frozen_of_row _ _ 0 _ _ HR2;have r1:w2.cell? ⟨w.heap.size,1,none⟩=some (.int .i64 0):=(cell_of_row _ _ 1 _ _ _ HR2).trans rfl;have rf1:w2.frozen? ⟨w.heap.size,1,none⟩=false:=frozen_of_row _ _ 1 _ _ HR2;have r2:w2.cell? ⟨w.heap.size,2,none⟩=some (.string ⟨#[]⟩):=(cell_of_row _ _ 2 _ _ _ HR2).trans rfl;have rf2:w2.frozen? ⟨w.heap.size,2,none⟩=false:=frozen_of_row _ _ 2 _ _ HR2;have B2:=bstep hb0 hb2))
   exact bodyPost_ret (v:=.agg #[.int .i64 1,.int .i64 (tvI false),.string ⟨#[]⟩]) (results_cell_row Tryz.results68 _ _ w.heap.size 66 _ (0,0) _ rfl (row3 HR2 _ _ _) Tryz.underlying66 rfl (by kernel_rfl)) rfl ⟨rfl,bset3 B2 (Nat.le_refl _) _ _ _⟩
  ·
   have n1:(my == 0)=false:=by simpa using h1
   have b1:(my != 0)=true:=by simpa using h1
   have HB:tvI (!decide (mx=0) && !decide (my=0))=tvI true:=by simp [h0,h1]
   rw [HB];clear HB;go_enter Tryz.func68,Tryz.ntmps68
   go_wp2_with (first | (go_at_call 113;refine(sTruth true _).mono ?_;rintro e w2 ⟨rfl,hb2⟩;have HR2:=rowL HR0.out hb2;have r0:w2.cell? ⟨w.heap.size,0,none⟩=some (.int .i64 0):=(cell_of_row _ _ 0 _ _ _ HR2).trans rfl;have rf0:w2.frozen? ⟨w.heap.size,0,none⟩=false:=frozen_of_row _ _ 0 _ _ HR2;have r1:w2.cell? ⟨w.heap.size,1,none⟩=some (.int .i64 0):=(cell_of_row _ _ 1 _ _ _ HR2).trans rfl;have rf1:w2.frozen? ⟨w.heap.size,1,none⟩=false:=frozen_of_row _ _ 1 _ _ HR2;have r2:w2.cell? ⟨w.heap.size,2,none⟩=some (.string ⟨#[]⟩):=(cell_of_row _ _ 2 _ _ _ HR2).trans rfl;have rf2:w2.frozen? ⟨w.heap.size,2,none⟩=false:=frozen_of_row _ _ 2 _ _ HR2;have B2:=bstep hb0 hb2))
   exact bodyPost_ret (v:=.agg #[.int .i64 1,.int .i64 (tvI true),.string ⟨#[]⟩]) (results_cell_row Tryz.results68 _ _ w.heap.size 66 _ (0,0) _ rfl (row3 HR2 _ _ _) Tryz.underlying66 rfl (by kernel_rfl)) rfl ⟨rfl,bset3 B2 (Nat.le_refl _) _ _ _⟩
theorem sApp10x(a:Option Addr)(m c:Nat)(I:Nat->Itm)(ox mx:Int)(sx:ByteArray)(oy my:Int)(sy:ByteArray)(w:World)(h:IL w a m I)(hm:2<=m)(hm2:m<=1048576)(hx:I 0=⟨ox,mx,sx⟩)(hy:I 1=⟨oy,my,sy⟩) :
 Calls Tryz.prog 68 #[.int .i64 10,.slice a m c] w fun e w'=>e=.returned (.agg #[.int .i64 1,.int .i64 (tvI (!decide (mx=0) || !decide (my=0))),.string ⟨#[]⟩])/\Below w.heap.size w w':=by
 have i0:(0:Int)<m:=by omega
 have i1:(1:Int)<m:=by omega
 obtain⟨b,off,rfl,c0,c1,c2,hs⟩:=h.later (bal w (.cells #[.int .i64 0,.int .i64 0,.string ⟨#[]⟩] 66)) 0 (by omega);rw [hx] at c0 c1 c2 hs;simp only [Nat.zero_mul,Nat.add_zero] at c0 c1 c2 hs
 obtain⟨b',off',e',d0,d1,d2,hs'⟩:=h.later (w':=((w.alloc (.cells #[.int .i64 0,.int .i64 0,.string ⟨#[]⟩] 66)).alloc (.cells #[.int .i64 ox,.int .i64 mx,.string sx] 66))) (bstep (bal _ _) (bal _ _)) 1 (by omega);rw [hy] at d0 d1 d2 hs';simp only [Nat.one_mul] at d0 d1 d2 hs'
 clear hx hy;obtain⟨rfl,rfl⟩:b=b'/\off=off':=by simpa using e'
 clear e';have hb0:Below w.heap.size w (((w.alloc (.cells #[.int .i64 0,.int .i64 0,.string ⟨#[]⟩] 66)).alloc (.cells #[.int .i64 ox,.int .i64 mx,.string sx] 66)).alloc (.cells #[.int .i64 oy,.int .i64 my,.string sy] 66)):=below3 _ _ _ _;have HR0:Hid ((((w.alloc (.cells #[.int .i64 0,.int .i64 0,.string ⟨#[]⟩] 66)).alloc (.cells #[.int .i64 ox,.int .i64 mx,.string sx] 66)).alloc (.cells #[.int .i64 oy,.int .i64 my,.string sy] 66)).heap[w.heap.size]?=some (.cells #[.int .i64 0,.int .i64 0,.string ⟨#[]⟩] 66 (0,0))):=rowL (rowL (heap_alloc_new w _) (bal _ _)) (bal _ _);by_cases h0:mx=0
 ·
  skip
  by_cases h1:my=0
  ·
   skip
   have HB:tvI (!decide (mx=0) || !decide (my=0))=tvI false:=by simp [h0,h1]
   rw [HB];clear HB;subst h0;subst h1;go_enter Tryz.func68,Tryz.ntmps68
   go_wp2_with (first | (go_at_call 113;refine(sTruth false _).mono ?_;rintro e w2 ⟨rfl,hb2⟩;have HR2:=rowL HR0.out hb2;have r0:w2.cell? ⟨w.heap.size,0,none⟩=some (.int .i64 0):=(cell_of_row _ _ 0 _ _ _ HR2).trans rfl;have rf0:w2.frozen? ⟨w.heap.size,0,none⟩=false:=frozen_of_row _ _ 0 _ _ HR2;have r1:w2.cell? ⟨w.heap.size,1,none⟩=some (.int .i64 0):=(cell_of_row _ _ 1 _ _ _ HR2).trans rfl;have rf1:w2.frozen? ⟨w.heap.size,1,none⟩=false:=frozen_of_row _ _ 1 _ _ HR2;have r2:w2.cell? ⟨w.heap.size,2,none⟩=some (.string ⟨#[]⟩):=(cell_of_row _ _ 2 _ _ _ HR2).trans rfl;have rf2:w2.frozen? ⟨w.heap.size,2,none⟩=false:=frozen_of_row _ _ 2 _ _ HR2;have B2:=bstep hb0 hb2))
   exact bodyPost_ret (v:=.agg #[.int .i64 1,.int .i64 (tvI false),.string ⟨#[]⟩]) (results_cell_row Tryz.results68 _ _ w.heap.size 66 _ (0,0) _ rfl (row3 HR2 _ _ _) Tryz.underlying66 rfl (by kernel_rfl)) rfl ⟨rfl,bset3 B2 (Nat.le_refl _) _ _ _⟩
  ·
   have n1:(my == 0)=false:=by simpa using h1
   have b1:(my != 0)=true:=by simpa using h1
   have HB:tvI (!decide (mx=0) || !decide (my=0))=tvI true:=by simp [h0,h1]
   rw [HB];clear HB;subst h0;go_enter Tryz.func68,Tryz.ntmps68
   go_wp2_with (first | (go_at_call 113;refine(sTruth true _).mono ?_;rintro e w2 ⟨rfl,hb2⟩;have HR2:=rowL HR0.out hb2;have r0:w2.cell? ⟨w.heap.size,0,none⟩=some (.int .i64 0):=(cell_of_row _ _ 0 _ _ _ HR2).trans rfl;have rf0:w2.frozen? ⟨w.heap.size,0,none⟩=false:=frozen_of_row _ _ 0 _ _ HR2;have r1:w2.cell? ⟨w.heap.size,1,none⟩=some (.int .i64 0):=(cell_of_row _ _ 1 _ _ _ HR2).trans rfl;have rf1:w2.frozen? ⟨w.heap.size,1,none⟩=false:=frozen_of_row _ _ 1 _ _ HR2;have r2:w2.cell? ⟨w.heap.size,2,none⟩=some (.string ⟨#[]⟩):=(cell_of_row _ _ 2 _ _ _ HR2).trans rfl;have rf2:w2.frozen? ⟨w.heap.size,2,none⟩=false:=frozen_of_row _ _ 2 _ _ HR2;have B2:=bstep hb0 hb2))
   exact bodyPost_ret (v:=.agg #[.int .i64 1,.int .i64 (tvI true),.string ⟨#[]⟩]) (results_cell_row Tryz.results68 _ _ w.heap.size 66 _ (0,0) _ rfl (row3 HR2 _ _ _) Tryz.underlying66 rfl (by kernel_rfl)) rfl ⟨rfl,bset3 B2 (Nat.le_refl _) _ _ _⟩
 ·
  have n0:(mx == 0)=false:=by simpa using h0
  have b0:(mx != 0)=true:=by simpa using h0
  have HB:tvI (!decide (mx=0) || !decide (my=0))=tvI true:=by simp [h0]
  rw [HB];clear HB;go_enter Tryz.func68,Tryz.ntmps68
  go_wp2_with (first | (go_at_call 113;refine(sTruth true _).mono ?_;rintro e w2 ⟨rfl,hb2⟩;have HR2:=rowL HR0.out hb2;have r0:w2.cell? ⟨w.heap.size,0,none⟩=some (.int .i64 0):=(cell_of_row _ _ 0 _ _ _ HR2).trans rfl;have rf0:w2.frozen? ⟨w.heap.size,0,none⟩=false:=frozen_of_row _ _ 0 _ _ HR2;have r1:w2.cell? ⟨w.heap.size,1,none⟩=some (.int .i64 0):=(cell_of_row _ _ 1 _ _ _ HR2).trans rfl;have rf1:w2.frozen? ⟨w.heap.size,1,none⟩=false:=frozen_of_row _ _ 1 _ _ HR2;have r2:w2.cell? ⟨w.heap.size,2,none⟩=some (.string ⟨#[]⟩):=(cell_of_row _ _ 2 _ _ _ HR2).trans rfl;have rf2:w2.frozen? ⟨w.heap.size,2,none⟩=false:=frozen_of_row _ _ 2 _ _ HR2;have B2:=bstep hb0 hb2))
  exact bodyPost_ret (v:=.agg #[.int .i64 1,.int .i64 (tvI true),.string ⟨#[]⟩]) (results_cell_row Tryz.results68 _ _ w.heap.size 66 _ (0,0) _ rfl (row3 HR2 _ _ _) Tryz.underlying66 rfl (by kernel_rfl)) rfl ⟨rfl,bset3 B2 (Nat.le_refl _) _ _ _⟩
theorem sApp9(a:Option Addr)(m c:Nat)(I:Nat->Itm)(w:World)(h:IL w a m I)(hm:2<=m)(hm2:m<=1048576) :
 Calls Tryz.prog 68 #[.int .i64 9,.slice a m c] w fun e w'=>e=.returned (.agg #[.int .i64 1,.int .i64 (tvI (!decide ((I 0).m=0) && !decide ((I 1).m=0))),.string ⟨#[]⟩])/\Below w.heap.size w w':=sApp9x a m c I _ _ _ _ _ _ w h hm hm2 rfl rfl
theorem sApp10(a:Option Addr)(m c:Nat)(I:Nat->Itm)(w:World)(h:IL w a m I)(hm:2<=m)(hm2:m<=1048576) :
 Calls Tryz.prog 68 #[.int .i64 10,.slice a m c] w fun e w'=>e=.returned (.agg #[.int .i64 1,.int .i64 (tvI (!decide ((I 0).m=0) || !decide ((I 1).m=0))),.string ⟨#[]⟩])/\Below w.heap.size w w':=sApp10x a m c I _ _ _ _ _ _ w h hm hm2 rfl rfl
theorem sApply(o:Int)(a:Option Addr)(m c:Nat)(I:Nat->Itm)(w:World)(h:IL w a m I)(hm:arity o<=m)(hm2:m<=1048576)(h4:4<=o)(h13:o<=13) :
 Calls Tryz.prog 68 #[.int .i64 o,.slice a m c] w fun e w'=>e=.returned (.agg #[.int .i64 (appI o (I 0) (I 1)).o,.int .i64 (appI o (I 0) (I 1)).m,.string (appI o (I 0) (I 1)).s])/\Below w.heap.size w w':=by
 by_cases e4:o=4
 · subst e4;exact sApp4 a m c I w h (by simp [arity] at hm;omega) hm2
 by_cases e5:o=5
 · subst e5;exact sApp5 a m c I w h (by simp [arity] at hm;omega) hm2
 by_cases e6:o=6
 · subst e6;exact sApp6 a m c I w h (by simp [arity] at hm;omega) hm2
 by_cases e7:o=7
 · subst e7;exact sApp7 a m c I w h (by simp [arity] at hm;omega) hm2
 by_cases e8:o=8
 · subst e8;exact sApp8 a m c I w h (by simp [arity] at hm;omega) hm2
 by_cases e9:o=9
 · subst e9;exact sApp9 a m c I w h (by simp [arity] at hm;omega) hm2
 by_cases e10:o=10
 · subst e10;exact sApp10 a m c I w h (by simp [arity] at hm;omega) hm2
 by_cases e11:o=11
 · subst e11;exact sApp11 a m c I w h (by simp [arity] at hm;omega) hm2
 by_cases e12:o=12
 · subst e12;exact sApp12 a m c I w h (by simp [arity] at hm;omega) hm2
 by_cases e13:o=13
 · subst e13;exact sApp13 a m c I w h (by simp [arity] at hm;omega) hm2
 omega
def okColAt(C:Nat->Clm)(k:Nat):Bool:=okName (C k).s && isTyp (C k).t && !hasCol C (C k).s k
def okRowAt(n:Nat)(C:Nat->Clm)(m:Nat->Nat)(R:Nat->Nat->Itm)(i:Nat):Bool:=
 decide (m i=n) && allN (m i) (fun j=>rightB (R i j).o (R i j).m (R i j).s (C j).t) && (decide (i=0) || befV (R (i - 1) 0).m (R (i - 1) 0).s (R i 0).m (R i 0).s)
def okTab(s:ByteArray)(n:Nat)(C:Nat->Clm)(r:Nat)(m:Nat->Nat)(R:Nat->Nat->Itm):Bool:=
 okName s && btw n 1 20 && decide (r<=1000) && allN n (okColAt C) && allN r (okRowAt n C m R)
theorem CL.take{w:World}{a:Option Addr}{n k:Nat}{C:Nat->Clm}(h:CL w a n C)(hk:k<=n):CL w a k C:=fun j hj=>h j (by omega)
set_option maxRecDepth 20000
set_option maxHeartbeats 4000000
theorem and_out{n:Nat}{p:Nat->Bool}(h:n=0∨20<n):(btw n 1 20 && allN n p)=false:=by
 have:btw n 1 20=false:=by simp [btw];omega
 rw [this];rfl
theorem and_in{n:Nat}{p:Nat->Bool}(h:∀ j,j<n->p j=true)(h0:0<n)(hm:n<=20):(btw n 1 20 && allN n p)=true:=by
 rw [and_yes h (fun _=>hm)];simp [h0]
theorem iAllCol(b:Nat)(a:Option Addr)(n c:Nat)(C:Nat->Clm)(w:World)(hK:KwAt w b)(h:CL w a n C)(hn:n<=1048576) :
 Calls Tryz.prog 80 #[.slice a n c,.int .i64 20,.func (.func 81) #[.map (some b)] #[]] w fun e w'=>e=.returned (.bool (btw n 1 20 && allN n (fun j=>okCol (C j).s (C j).t)))/\Below w.heap.size w w':=by
 have hb0:=Below.refl w.heap.size w;go_enter Tryz.func80,Tryz.ntmps80
 by_cases h0:n=0
 ·
  subst h0;go_wp2;go_ret
  exact⟨retB (and_out (by omega)).symm,hb0⟩
 have h0':((n:Int) == 0)=false:=by simp;omega
 by_cases h20:20<n
 ·
  have h20':(20:Int)<n:=by omega
  go_wp2;go_ret
  exact⟨retB (and_out (by omega)).symm,hb0⟩
 have h20':(n:Int)<=20:=by omega
 go_wp2;go_loopw [20] (fun i wr=>∃ k:Nat,k<=n/\i=.int .i64 k/\(∀ j,j<k->okCol (C j).s (C j).t=true)/\Below w.heap.size w wr) (fun i _=>n - (intOf i).toNat)
 case atStart=>exact⟨0,by omega,rfl,fun j hj=>by omega,hb0⟩
 case round=>
  obtain⟨j,hj,rfl,hall,hb2⟩:=hrel;by_cases hlt:j<n
  ·
   obtain⟨b',off,rfl,d0,d1,hs⟩:=h.later hb2 j hlt;have hK2:=hK.later (bstep hb2 (bal wr (.cells #[.string (C j).s,.int .i64 (C j).t] 113)));go_wp2_with (go_at_call 81;refine(iColumn b _ _ _ hK2 hs).mono ?_;rintro e w3 ⟨rfl,hb3⟩;replace hb3:=bj hb2 hb3;rcases ho:okCol (C j).s (C j).t)
   ·
    go_ret
    exact⟨retB (and_no hlt (Or.inl ho)).symm,hb3⟩
   ·
    go_roundw
    case rel=>exact⟨j+1,by omega,by go_num,fun i hi=>by
     by_cases e:i=j
     · subst e;exact ho
     · exact hall i (by omega),hb3⟩
    case measure=>simp [intOf];omega
  ·
   obtain rfl:j=n:=by omega
   go_wp2;go_ret
   exact⟨retB (and_in hall (by omega) (by omega)).symm,hb2⟩
theorem iAllVal(a:Option Addr)(n c:Nat)(V:Nat->Itm)(w:World)(h:IL w a n V)(hn:n<=1048576) :
 Calls Tryz.prog 82 #[.slice a n c,.int .i64 20,.func (.func 83) #[] #[]] w fun e w'=>e=.returned (.bool (btw n 1 20 && allN n (fun j=>okValue (V j).o (V j).m (V j).s)))/\Below w.heap.size w w':=by
 have hb0:=Below.refl w.heap.size w;go_enter Tryz.func82,Tryz.ntmps82
 by_cases h0:n=0
 ·
  subst h0;go_wp2;go_ret
  exact⟨retB (and_out (by omega)).symm,hb0⟩
 have h0':((n:Int) == 0)=false:=by simp;omega
 by_cases h20:20<n
 ·
  have h20':(20:Int)<n:=by omega
  go_wp2;go_ret
  exact⟨retB (and_out (by omega)).symm,hb0⟩
 have h20':(n:Int)<=20:=by omega
 go_wp2;go_loopw [20] (fun i wr=>∃ k:Nat,k<=n/\i=.int .i64 k/\(∀ j,j<k->okValue (V j).o (V j).m (V j).s=true)/\Below w.heap.size w wr) (fun i _=>n - (intOf i).toNat)
 case atStart=>exact⟨0,by omega,rfl,fun j hj=>by omega,hb0⟩
 case round=>
  obtain⟨j,hj,rfl,hall,hb2⟩:=hrel;by_cases hlt:j<n
  ·
   obtain⟨b',off,rfl,d0,d1,d2,hs⟩:=h.later hb2 j hlt;go_wp2_with (go_at_call 83;refine(iValue _ _ _ _ hs).mono ?_;rintro e w3 ⟨rfl,hb3⟩;replace hb3:=bj hb2 hb3;rcases ho:okValue (V j).o (V j).m (V j).s)
   ·
    go_ret
    exact⟨retB (and_no hlt (Or.inl ho)).symm,hb3⟩
   ·
    go_roundw
    case rel=>exact⟨j+1,by omega,by go_num,fun i hi=>by
     by_cases e:i=j
     · subst e;exact ho
     · exact hall i (by omega),hb3⟩
    case measure=>simp [intOf];omega
  ·
   obtain rfl:j=n:=by omega
   go_wp2;go_ret
   exact⟨retB (and_in hall (by omega) (by omega)).symm,hb2⟩
theorem iAllOut(b:Nat)(a:Option Addr)(n c:Nat)(m:Nat->Nat)(O:Nat->Nat->Itm)(w:World)(hK:KwAt w b)(h:OL w a n m O)(hn:n<=1048576) :
 Calls Tryz.prog 86 #[.slice a n c,.int .i64 20,.func (.func 84) #[.map (some b)] #[]] w fun e w'=>e=.returned (.bool (btw n 1 20 && allN n (fun j=>okExp (O j) (m j))))/\Below w.heap.size w w':=by
 have hb0:=Below.refl w.heap.size w;go_enter Tryz.func86,Tryz.ntmps86
 by_cases h0:n=0
 ·
  subst h0;go_wp2;go_ret
  exact⟨retB (and_out (by omega)).symm,hb0⟩
 have h0':((n:Int) == 0)=false:=by simp;omega
 by_cases h20:20<n
 ·
  have h20':(20:Int)<n:=by omega
  go_wp2;go_ret
  exact⟨retB (and_out (by omega)).symm,hb0⟩
 have h20':(n:Int)<=20:=by omega
 go_wp2;go_loopw [20] (fun i wr=>∃ k:Nat,k<=n/\i=.int .i64 k/\(∀ j,j<k->okExp (O j) (m j)=true)/\Below w.heap.size w wr) (fun i _=>n - (intOf i).toNat)
 case atStart=>exact⟨0,by omega,rfl,fun j hj=>by omega,hb0⟩
 case round=>
  obtain⟨j,hj,rfl,hall,hb2⟩:=hrel;by_cases hlt:j<n
  ·
   obtain⟨b',off,i,c',rfl,d0,di,dm⟩:=h.later hb2 j hlt;have hK2:=hK.later hb2;go_wp2_with (go_at_call 84;refine(iExpr b i _ c' _ _ hK2 di dm).mono ?_;rintro e w3 ⟨rfl,hb3⟩;replace hb3:=bstep hb2 hb3;rcases ho:okExp (O j) (m j))
   ·
    go_ret
    exact⟨retB (and_no hlt (Or.inl ho)).symm,hb3⟩
   ·
    go_roundw
    case rel=>exact⟨j+1,by omega,by go_num,fun i hi=>by
     by_cases e:i=j
     · subst e;exact ho
     · exact hall i (by omega),hb3⟩
    case measure=>simp [intOf];omega
  ·
   obtain rfl:j=n:=by omega
   go_wp2;go_ret
   exact⟨retB (and_in hall (by omega) (by omega)).symm,hb2⟩
def bareB(n2 n3:Nat)(col:ByteArray)(n5 n6 n7:Nat):Bool:=(n2:Int) == 0 && (n3:Int) == 0 && decide (col.size=0) && (n5:Int) == 0 && (n6:Int) == 0 && (n7:Int) == 0
theorem iBare(k:Int)(tb:ByteArray)(a2:Option Addr)(n2 c2:Nat)(a3:Option Addr)(n3 c3:Nat)(col:ByteArray)(a5:Option Addr)(n5 c5:Nat)(a6:Option Addr)(n6 c6:Nat)(a7:Option Addr)(n7 c7:Nat)(w:World) :
 Calls Tryz.prog 79 #[.agg #[.int .i64 k,.string tb,.slice a2 n2 c2,.slice a3 n3 c3,.string col,.slice a5 n5 c5,.slice a6 n6 c6,.slice a7 n7 c7]] w fun e w'=>e=.returned (.bool (bareB n2 n3 col n5 n6 n7))/\Below w.heap.size w w':=by
 have hE:=isE col;go_enter Tryz.func79,Tryz.ntmps79
 go_wp2;all_goals
  go_ret
  exact⟨retB (by simp [bareB, *]),bal _ _⟩
set_option maxRecDepth 20000
set_option maxHeartbeats 4000000
theorem isNaN(s:ByteArray)(w:World):Calls Tryz.prog 153 #[.string s] w fun e w'=>e=.returned (.bool false)/\w'=w:=by
 have hq:=eqS_same s;go_enter Tryz.func153,Tryz.ntmps153
 go_wp2;go_ret
 exact⟨rfl,rfl⟩
theorem isNaNI(x:Int)(w:World):Calls Tryz.prog 182 #[.int .i64 x] w fun e w'=>e=.returned (.bool false)/\w'=w:=by
 have hq:(x == x)=true:=by simp
 go_enter Tryz.func182,Tryz.ntmps182
 go_wp2;go_ret
 exact⟨rfl,rfl⟩
theorem cmpLess(s s':ByteArray)(w:World):Calls Tryz.prog 122 #[.string s,.string s'] w fun e w'=>e=.returned (.bool (Op.bytesLess s.toList s'.toList))/\w'=w:=by
 rcases hl:Op.bytesLess s.toList s'.toList
 all_goals
  go_enter Tryz.func122,Tryz.ntmps122
  go_wp2_with (go_at_call 153;refine(isNaN _ _).mono ?_;rintro e w1 ⟨rfl,rfl⟩)
  go_ret
  exact⟨rfl,rfl⟩
theorem cmpLessI(x y:Int)(w:World):Calls Tryz.prog 152 #[.int .i64 x,.int .i64 y] w fun e w'=>e=.returned (.bool (decide (x<y)))/\w'=w:=by
 by_cases hl:x<y
 ·
  have hd:decide (x<y)=true:=by simp [hl]
  go_enter Tryz.func152,Tryz.ntmps152
  go_wp2_with (go_at_call 182;refine(isNaNI _ _).mono ?_;rintro e w1 ⟨rfl,rfl⟩)
  go_ret
  exact⟨retB hd.symm,rfl⟩
 ·
  have hd:decide (x<y)=false:=by simp [hl]
  go_enter Tryz.func152,Tryz.ntmps152
  go_wp2_with (go_at_call 182;refine(isNaNI _ _).mono ?_;rintro e w1 ⟨rfl,rfl⟩)
  go_ret
  exact⟨retB hd.symm,rfl⟩
theorem iTabName(s:ByteArray)(x y:Value)(w:World):Calls Tryz.prog 77 #[.agg #[.string s,x,y]] w fun e w'=>e=.returned (.string s)/\Below w.heap.size w w':=by
 go_enter Tryz.func77,Tryz.ntmps77
 go_wp2;go_ret
 exact⟨rfl,bal _ _⟩
theorem iNumKey(a:Option Addr)(n c:Nat)(I:Nat->Itm)(w:World)(h:IL w a n I)(hn:0<n):Calls Tryz.prog 119 #[.slice a n c] w fun e w'=>e=.returned (.int .i64 (I 0).m)/\w'=w:=by
 obtain⟨b,off,rfl,d0,d1,d2,-⟩:=h 0 hn;have i0:(0:Int)<(n:Int):=by omega
 go_enter Tryz.func119,Tryz.ntmps119
 go_wp2;go_ret
 exact⟨rfl,rfl⟩
theorem iTextKey(a:Option Addr)(n c:Nat)(I:Nat->Itm)(w:World)(h:IL w a n I)(hn:0<n):Calls Tryz.prog 121 #[.slice a n c] w fun e w'=>e=.returned (.string (I 0).s)/\w'=w:=by
 obtain⟨b,off,rfl,d0,d1,d2,-⟩:=h 0 hn;have i0:(0:Int)<(n:Int):=by omega
 go_enter Tryz.func121,Tryz.ntmps121
 go_wp2;go_ret
 exact⟨rfl,rfl⟩
theorem iTypeIs(o m:Int)(s s':ByteArray)(t:Int)(w:World):Calls Tryz.prog 161 #[.agg #[.int .i64 o,.int .i64 m,.string s],.agg #[.string s',.int .i64 t]] w fun e w'=>e=.returned (.bool (o == t))/\Below w.heap.size w w':=by
 have hb0:=bstep (bal w (.cells #[.int .i64 o,.int .i64 m,.string s] 66)) (bal _ (.cells #[.string s',.int .i64 t] 113));go_enter Tryz.func161,Tryz.ntmps161
 go_wp2;go_ret
 exact⟨rfl,hb0⟩
theorem iIntValue(m:Int)(w:World):Calls Tryz.prog 151 #[.int .i64 m] w fun e w'=>e=.returned (.agg #[.int .i64 1,.int .i64 m,.string ⟨#[]⟩])/\Below w.heap.size w w':=by
 go_enter Tryz.func151,Tryz.ntmps151
 go_wp2;exact bodyPost_ret (v:=.agg #[.int .i64 1,.int .i64 m,.string ⟨#[]⟩]) (by simp [results,Tryz.results151,go_sem]) rfl ⟨rfl,bal _ _⟩
def typesB(n n':Nat)(I:Nat->Itm)(C:Nat->Clm):Bool:=decide (n=n') && allN n (fun j=>(I j).o == (C j).t)
theorem iEqualF(a:Option Addr)(n c:Nat)(I:Nat->Itm)(a':Option Addr)(n' c':Nat)(C:Nat->Clm)(w:World)(h:IL w a n I)(h':CL w a' n' C)(hn:n<=1048576)(hn':n'<=1048576) :
 Calls Tryz.prog 160 #[.slice a n c,.slice a' n' c',.func (.func 161) #[] #[]] w fun e w'=>e=.returned (.bool (typesB n n' I C))/\Below w.heap.size w w':=by
 have hb0:=Below.refl w.heap.size w;by_cases hq:n=n'
 rotate_left
 ·
  have hq':((n:Int) == (n':Int))=false:=by simp;omega
  have HF:Hid (typesB n n' I C=false):=by simp [Hid,typesB,hq]
  go_enter Tryz.func160,Tryz.ntmps160
  go_wp2;go_ret
  exact⟨retB HF.out.symm,hb0⟩
 subst hq;have hq':((n:Int) == (n:Int))=true:=by simp
 go_enter Tryz.func160,Tryz.ntmps160
 go_wp2;go_loopw [7,8,9,17] (fun _ _ _ i wr=>∃ k:Nat,k<=n/\i=.int .i64 k/\(∀ j,j<k->((I j).o == (C j).t)=true)/\Below w.heap.size w wr) (fun _ _ _ i _=>n - (intOf i).toNat)
 case atStart=>exact⟨0,by omega,rfl,fun j hj=>by omega,hb0⟩
 case round=>
  obtain⟨k,hk,rfl,hall,hb⟩:=hrel;by_cases hlt:k<n
  ·
   obtain⟨b,off,rfl,d0,d1,d2,-⟩:=h.later hb k hlt;obtain⟨b',off',rfl,e0,e1,-⟩:=h'.later hb k hlt;have hb1:=bstep (bal wr (.cells #[.int .i64 (I k).o,.int .i64 (I k).m,.string (I k).s] 66)) (bal _ (.cells #[.string (C k).s,.int .i64 (C k).t] 113));have f0:=keepB (bal wr (.cells #[.int .i64 (I k).o,.int .i64 (I k).m,.string (I k).s] 66)) e0;have f1:=keepB (bal wr (.cells #[.int .i64 (I k).o,.int .i64 (I k).m,.string (I k).s] 66)) e1;go_wp2_with (go_at_call 161;refine(iTypeIs _ _ _ _ _ _).mono ?_;rintro e w3 ⟨rfl,hb3⟩;replace hb3:=bstep hb (bstep hb1 hb3);rcases ho:((I k).o == (C k).t))
   ·
    go_ret
    exact⟨retB (by unfold typesB;rw [allN_false hlt ho];simp),hb3⟩
   ·
    go_roundw
    case rel=>exact⟨k+1,by omega,by go_num,fun i hi=>by
     by_cases e:i=k
     · subst e;exact ho
     · exact hall i (by omega),hb3⟩
    case measure=>simp [intOf];omega
  ·
   obtain rfl:k=n:=by omega
   go_wp2;go_ret
   exact⟨retB (by unfold typesB;rw [allN_true hall];simp),hb⟩
theorem iHaveTypes(a:Option Addr)(n c:Nat)(I:Nat->Itm)(a':Option Addr)(n' c':Nat)(C:Nat->Clm)(w:World)(h:IL w a n I)(h':CL w a' n' C)(hn:n<=1048576)(hn':n'<=1048576) :
 Calls Tryz.prog 130 #[.slice a n c,.slice a' n' c'] w fun e w'=>e=.returned (.bool (typesB n n' I C))/\Below w.heap.size w w':=by
 go_enter Tryz.func130,Tryz.ntmps130
 go_wp2_with (go_at_call 160;refine(iEqualF _ _ _ _ _ _ _ _ _ h h' hn hn').mono ?_;rintro e w1 ⟨rfl,hb1⟩)
 go_ret
 exact⟨rfl,hb1⟩
end Go.Proofs.YtgeiamgeclbiaaaGreatDoor
