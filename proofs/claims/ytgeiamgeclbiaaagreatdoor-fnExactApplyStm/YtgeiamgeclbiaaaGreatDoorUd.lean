import Derived.Test.YtgeiamgeclbiaaaGreatDoorUc
namespace Go.Proofs.YtgeiamgeclbiaaaGreatDoor
open Go.RowKit Go.Maps Go.WideMaps
set_option maxRecDepth 20000
set_option maxHeartbeats 16000000
abbrev qUd0:Oper:=⟨some 64,.move (.tmp 10),148,"l5_replay.go:101",#[],none⟩
abbrev qUd1:Oper:=⟨some 65,.indexAddr 148 (.tmp 64) (.const (.int .i64 0)),0,"l5_replay.go:101",#[⟨0,.data⟩],none⟩
abbrev qUd2:Oper:=⟨some 66,.load 3 (.tmp 65),3,"l5_replay.go:101",#[⟨1,.data⟩],none⟩
abbrev qUd3:Oper:=⟨some 67,.move (.tmp 10),148,"l5_replay.go:101",#[],none⟩
abbrev qUd4:Oper:=⟨some 68,.indexAddr 148 (.tmp 67) (.const (.int .i64 1)),0,"l5_replay.go:101",#[⟨3,.data⟩],none⟩
abbrev qUd5:Oper:=⟨some 69,.load 3 (.tmp 68),3,"l5_replay.go:101",#[⟨4,.data⟩],none⟩
abbrev qUd6:Oper:=⟨some 70,.binOp .eql 3 (.tmp 66) (.tmp 69) 3,4,"l5_replay.go:101",#[⟨2,.data⟩,⟨5,.data⟩],none⟩
abbrev qUd7:Oper:=⟨some 12,.assign (.tmp 70),4,"l5_replay.go:101",#[⟨6,.data⟩,⟨0,.phase⟩,⟨1,.phase⟩,⟨2,.phase⟩,⟨3,.phase⟩,⟨4,.phase⟩,⟨5,.phase⟩,⟨6,.phase⟩],none⟩
theorem Tryz.infoInt:(Tryz.prog.info? 3).map (fun i=>(i.zero,i.size,i.bytes))=some (some (.int .i64 0),1,8):=by kernel_rfl
theorem ints_len(L:List Int):(ints L).length=L.length:=by simp [ints]
theorem ints_one(L:List Int):∀ u∈ints L,u.oneCell'=true:=by
 intro u hu;simp only [ints,List.mem_map] at hu
 obtain⟨x,-,rfl⟩:=hu;rfl
theorem ints_get{L:List Int}{j:Nat}(h:j<L.length):(ints L)[j]?=some (.int .i64 (L.getD j 0)):=by
 simp [ints,h]
theorem ex_at{I:Nat->Itm}{k:Nat}:∀ {m:Nat} {x:Int},ex I m=some x->k<m->∃ d,ex I k=some d/\okItem (I k).o (I k).m (I k).s=true/\arity (I k).o<=d
 | 0,x,h,hk=>by omega
 | m+1,x,h,hk=>by
  rw [ex] at h;split at h
  · cases h
  ·
   rename_i d hd
   by_cases e:k=m
   ·
    subst e;split at h
    ·
     rename_i hc
     exact⟨d,hd,hc.1,hc.2⟩
    · cases h
   · exact ex_at hd (by omega)
def Sk(w:World)(base g cap:Nat)(L:List Int):Prop:=w.ownsRow base 3 1 (.slice (some ⟨g,0,none⟩) L.length cap) L.length (ints L)
theorem Sk.at{w:World}{base g cap:Nat}{L:List Int}(h:Sk w base g cap L){j:Nat}(hj:j<L.length):w.cell? ⟨g,j,none⟩=some (.int .i64 (L.getD j 0)):=by
 exact(h.cellAt j (by rw [Nat.mul_one];exact hj)).trans (ints_get hj)
theorem own_some{w:World}{base e size n:Nat}{v:Value}{xs:List Value}(h:w.ownsRow base e size v n xs)(hv:v≠.slice none 0 0):∃ g cap,v=.slice (some ⟨g,0,none⟩) n cap:=by
 rcases h.2 with ⟨e,-⟩ | ⟨g,cap,cur,e,-⟩
 · exact absurd e hv
 · exact⟨g,cap,e⟩
theorem drop_getD(L:List Int)(j q:Nat):(L.drop j).getD q 0=L.getD (j+q) 0:=by simp
theorem Sk.news{w:World}{base g cap:Nat}{L:List Int}(h:Sk w base g cap L){j:Nat}:∀ i u,(ints (L.take j))[i]?=some u->w.cell? ((⟨g,0,none⟩:Addr).add i)=some u:=fun i u hu=>by
 refine h.cells (g:=g) rfl i u ?_;unfold ints at hu ⊢;rw [List.map_take,List.getElem?_take] at hu;split at hu
 · exact hu
 · cases hu
theorem sk_end{w4:World}{base g4 cap4 j:Nat}{L:List Int}{r:Int}(hjl:j<=L.length)(h:w4.ownsRow base 3 1 (.slice (some ⟨g4,0,none⟩) (j+1) cap4) (j+1) (ints (L.take j) ++ [.int .i64 r])):(L.take j ++ [r]).length=j+1/\Sk w4 base g4 cap4 (L.take j ++ [r]):=by
 have e1:(L.take j ++ [r]).length=j+1:=by simp;omega
 refine⟨e1,?_⟩;unfold Sk;rw [e1,show ints (L.take j ++ [r])=ints (L.take j) ++ [.int .i64 r] from by simp [ints]]
 exact h
theorem own_capS{w:World}{base g cap:Nat}{L:List Int}(h:Sk w base g cap L):L.length<=cap:=by
 rcases h.2 with ⟨e,-⟩ | ⟨g',cap',cur,e,-,-,h1,-⟩
 · simp at e
 ·
  simp only [Value.slice.injEq,Option.some.injEq,Addr.mk.injEq,and_true,true_and] at e
  omega
theorem gBs{w a b:World}{r:Option Nat}(h:Below w.heap.size w a)(g:a.grownBy b r)(hB:∀ x,r=some x->w.heap.size<=x):Below w.heap.size w b:=
 ⟨g.os.trans h.os,g.tape.trans h.tape,g.output.trans h.output,Nat.le_trans h.size g.size,fun k hk=>(g.block k (Nat.lt_of_lt_of_le hk h.size) (fun e=>by have:=hB k e.symm;omega)).trans (h.block k hk)⟩
theorem okItem_op{o m:Int}{s:ByteArray}(h:okItem o m s=true):1<=o/\o<=13:=by
 simp only [okItem,Bool.or_eq_true,Bool.and_eq_true,decide_eq_true_eq] at h
 rcases h with ((⟨h,-⟩ | ⟨h,-⟩) | ⟨h,-⟩) | ⟨h,-⟩ <;> first | omega | (simp [btw] at h;omega) | (simp at h;omega) | (revert h;simp;omega)
theorem all_take(L:List Int)(j q:Nat)(h:j+q<L.length):((L.drop j).take (q+1)).all (fun x=>x == 1)=(((L.drop j).take q).all (fun x=>x == 1) && (L.getD (j+q) 0 == 1)):=by
 rw [List.take_add_one,List.all_append];congr 1
 rw [List.getElem?_drop];simp [h]
theorem bdrV(w:World):Below w.heap.size w w.drew:=undrew (Below.refl _ _)
theorem sCheck(ac:Option Addr)(n cc:Nat)(C:Nat->Clm)(a:Option Addr)(m c:Nat)(I:Nat->Itm)(w:World)(hC:CL w ac n C)(hI:IL w a m I)(hn:n<=1048576)(hm:m<=100)(hx:ex I m=some 1) :
 Calls Tryz.prog 57 #[.slice ac n cc,.slice a m c] w fun e w'=>e=.returned (.tuple #[.int .i64 (ckR C n I m).1,.int .i64 (ckR C n I m).2])/\Below w.heap.size w w':=by
 have HX:Hid (ex I m=some 1):=hx;clear hx;obtain⟨i0,hi,hz0,hz1,hz2⟩:=info_parts Tryz.infoInt;have HI:Hid (Tryz.prog.info? 3=some i0):=hi;clear hi;have hb0:=bal w (.cells #[] 3);have hO0:Sk (w.alloc (.cells #[] 3)) w.heap.size w.heap.size 0 []:=World.ownsRow_made w #[] 0 (Nat.le_refl _) (by unfold maxLen;omega) rfl;go_enter Tryz.func57,Tryz.ntmps57
 go_wp2;go_loopw [6,8,9,10,11,12,13,15,19] (fun v _ _ _ _ _ _ _ i wr=>∃ (k g cap:Nat) (L:List Int),k<=m/\i=.int .i64 k/\v=.slice (some ⟨g,0,none⟩) L.length cap/\ck C n I k=(L,0)/\Sk wr w.heap.size g cap L/\Below w.heap.size w wr) (fun _ _ _ _ _ _ _ _ i _=>m - (intOf i).toNat)
 case atStart=>exact⟨0,w.heap.size,0,[],by omega,rfl,rfl,rfl,hO0,hb0⟩
 case round=>
  obtain⟨k,g,cap,L,hk,rfl,rfl,hck,hO,hb⟩:=hrel;have HCK:Hid (ck C n I k=(L,0)):=hck;clear hck;by_cases hlt:k<m
  rotate_left
  ·
   obtain rfl:k=m:=by omega
   have HL:L.length=1:=by
    have:=ck_len (C:=C) (n:=n) HX.out (by rw [HCK.out]);rw [HCK.out] at this;simp only at this
    omega
   have c0:=hO.at (j:=0) (by omega);have h1:(0:Int)<L.length:=by omega
   obtain⟨x0,hx0⟩:∃ x,L.getD 0 0=x:=⟨_,rfl⟩;have e:Hid (ckR C n I k=(x0,0)):=by show _=_;unfold ckR;rw [HCK.out,←hx0];rfl
   rw [hx0] at c0;clear hx0;go_wp2;refine bodyPost_ret (results_tmp2 rfl _ _ _) rfl ⟨?_,hb⟩;rw [e.out];rfl
  have hsw:=hb.size;obtain⟨d,hd,hok,had⟩:=ex_at HX.out hlt;have hlen:((L.length:Nat):Int)=d:=by
   have:=ck_len (C:=C) (n:=n) hd (by rw [HCK.out]);rwa [HCK.out] at this
  have hll:=ex_le hd;have hst:ck C n I (k+1)=if (tyI C n (I k) (L.drop (L.length - arN (I k).o))).2≠0 then (L,(tyI C n (I k) (L.drop (L.length - arN (I k).o))).2) else (L.take (L.length - arN (I k).o) ++ [(tyI C n (I k) (L.drop (L.length - arN (I k).o))).1],0):=by
   rw [ck,HCK.out];simp only [stp]
   rw [if_neg (by simp)];rfl
  obtain⟨b,off,rfl,c0,c1,c2,hs⟩:=hI.later hb k hlt;obtain⟨o,mm,s,hIk⟩:∃ o mm s,I k=⟨o,mm,s⟩:=⟨_,_,_,rfl⟩;rw [hIk] at hok had hst c0 c1 c2 hs;simp only at hok had hst c0 c1 c2 hs
  have hop:=okItem_op hok;have ha:=arN_eq o;have hal:=arity_le o;obtain⟨j,hj⟩:∃ j:Nat,L.length - arN o=j:=⟨_,rfl⟩;rw [hj] at hst;have hj1:((L.length:Nat):Int) - arity o=(j:Nat):=by omega
  have hjl:j<=L.length:=by omega
  have hjj:(j:Int)<=L.length:=by omega
  have HST:Hid (ck C n I (k+1)=if (tyI C n ⟨o,mm,s⟩ (L.drop j)).2≠0 then (L,(tyI C n ⟨o,mm,s⟩ (L.drop j)).2) else (L.take j ++ [(tyI C n ⟨o,mm,s⟩ (L.drop j)).1],0)):=hst
  have HFL:Hid (∀ cd:Int,cd≠0->(tyI C n ⟨o,mm,s⟩ (L.drop j)).2=cd->ckR C n I m=(0,cd)):=fun cd h0 h1=>by
   have e1:ck C n I (k+1)=(L,cd):=by rw [HST.out,h1,if_pos h0]
   have e2:=ck_fail (C:=C) (n:=n) (I:=I) (k:=k+1) (by rw [e1];exact h0) m hlt;unfold ckR;rw [e2,e1,if_pos h0]
  have hj100:j<=100:=by omega
  have hcp:=own_capS hO;have HLE:Hid (((L.length:Nat):Int)=d/\L.length - arN o=j/\L.length<=100):=⟨hlen,hj,by omega⟩;clear hst hIk hj ha had hd hok hlen;by_cases o2:o=2
  ·
   subst o2;have HT:Hid (tyI C n ⟨2,mm,s⟩ (L.drop j)=(2,0)):=by show _=_;simp [tyI]
   have HsW:Hid ((wr.alloc (.cells #[.int .i64 2,.int .i64 mm,.string s] 108)).heap.size=wr.heap.size+1):=World.size_alloc _ _;have HOE:Hid (((wr.alloc (.cells #[.int .i64 2,.int .i64 mm,.string s] 108)).alloc (.cells #[] 3)).ownsRow w.heap.size 3 1 (.slice (some ⟨wr.heap.size+1,0,none⟩) 0 0) 0 []):=by
    have q:=World.ownsRow_made (base:=w.heap.size) (e:=3) (size:=1) (wr.alloc (.cells #[.int .i64 2,.int .i64 mm,.string s] 108)) #[] 0 (by rw [HsW.out];omega) (by unfold maxLen;omega) rfl;rw [HsW.out] at q;exact q
   have hOW:Sk (wr.alloc (.cells #[.int .i64 2,.int .i64 mm,.string s] 108)) w.heap.size g cap L:=own_below hO (bal _ _);have hbW:Below w.heap.size w (wr.alloc (.cells #[.int .i64 2,.int .i64 mm,.string s] 108)):=bstep hb (bal _ _);by_cases hcj:j<cap
   ·
    have hcj1:(j:Int)<cap:=by omega
    go_wp2_with (first | (at_builtin;have _h:=hb5;refine wpList_append_lies _ rfl _ _ _ rfl w.heap.size 3 i0 (.int .i64 0) 1 8 Tryz.underlying148 HI.out hz0 hz1 hz2 rfl (by omega) (.slice (some ⟨g5,0,none⟩) j cap5) j (ints (L.take j)) rfl (hown5.alloc _) ⟨w5.heap.size,0,none⟩ 1 1 [.int .i64 (2)] rfl rfl (World.news_of_block (heap_alloc_new w5 _)) (ones _ rfl) (by omega) (by unfold maxLen;have:=HLE.out;omega) (by have:=HLE.out;omega) (by simp;omega) _ rfl ?_;intro g6 cap6 w6 hO6 hgr6 hat6 hlt6) | (at_builtin;refine wpList_append_own _ rfl _ _ 148 rfl w.heap.size 3 i0 (.int .i64 0) 1 8 Tryz.underlying148 HI.out hz0 hz1 hz2 rfl (by omega) (.slice (some ⟨wr.heap.size+1,0,none⟩) 0 0) 0 [] rfl HOE.out ⟨g,0,none⟩ j cap (ints (L.take j)) rfl (by rw [ints_len,List.length_take];omega) (Sk.news (own_below hOW (bal _ _))) (ints_one _) (by unfold maxLen;have:=HLE.out;omega) (by have:=HLE.out;omega) (by simp;omega) ?_;intro v1 w5 hown5 hgrow5 hnil5;obtain⟨g5,cap5,rfl⟩:=own_some hown5 (fun e=>by have:=hnil5.1 e;simp at this);rw [Nat.zero_add,List.nil_append] at hown5;have hb5:=gBs (bstep hbW (bal _ (.cells #[] 3))) hgrow5 (fun x hx=>by have e:wr.heap.size+1=x:=Option.some.inj hx;omega);have hs5:=hb5.size;clear hnil5) | (go_at_call 66;refine(sArity (2) _).mono ?_;rintro e w3 ⟨rfl,rfl⟩))
    obtain⟨q1,q2⟩:=sk_end hjl hO6;have hb6:=gBs (hb5.alloc hb5.size _) hgr6 (fun x hx=>by have e:g5=x:=Option.some.inj hx;have:=(hown5.lt g5 rfl).1;omega);have q3:ck C n I (k+1)=(L.take j ++ [2],0):=by rw [HST.out,HT.out];rfl
    go_roundw
    case rel=>exact⟨k+1,g6,cap6,L.take j ++ [2],by omega,by go_num,by rw [q1],q3,q2,hb6⟩
    case measure=>simp [intOf];omega
   ·
    obtain rfl:j=cap:=by omega
    go_wp2_with (first | (at_builtin;have _h:=hb5;refine wpList_append_lies _ rfl _ _ _ rfl w.heap.size 3 i0 (.int .i64 0) 1 8 Tryz.underlying148 HI.out hz0 hz1 hz2 rfl (by omega) (.slice (some ⟨g5,0,none⟩) j cap5) j (ints (L.take j)) rfl (hown5.alloc _) ⟨w5.heap.size,0,none⟩ 1 1 [.int .i64 (2)] rfl rfl (World.news_of_block (heap_alloc_new w5 _)) (ones _ rfl) (by omega) (by unfold maxLen;have:=HLE.out;omega) (by have:=HLE.out;omega) (by simp;omega) _ rfl ?_;intro g6 cap6 w6 hO6 hgr6 hat6 hlt6) | (at_builtin;refine wpList_append_own _ rfl _ _ 148 rfl w.heap.size 3 i0 (.int .i64 0) 1 8 Tryz.underlying148 HI.out hz0 hz1 hz2 rfl (by omega) (.slice (some ⟨wr.heap.size+1,0,none⟩) 0 0) 0 [] rfl HOE.out ⟨g,0,none⟩ j j (ints (L.take j)) rfl (by rw [ints_len,List.length_take];omega) (Sk.news (own_below hOW (bal _ _))) (ints_one _) (by unfold maxLen;have:=HLE.out;omega) (by have:=HLE.out;omega) (by simp;omega) ?_;intro v1 w5 hown5 hgrow5 hnil5;obtain⟨g5,cap5,rfl⟩:=own_some hown5 (fun e=>by have:=hnil5.1 e;simp at this);rw [Nat.zero_add,List.nil_append] at hown5;have hb5:=gBs (bstep hbW (bal _ (.cells #[] 3))) hgrow5 (fun x hx=>by have e:wr.heap.size+1=x:=Option.some.inj hx;omega);have hs5:=hb5.size;clear hnil5) | (go_at_call 66;refine(sArity (2) _).mono ?_;rintro e w3 ⟨rfl,rfl⟩))
    obtain⟨q1,q2⟩:=sk_end hjl hO6;have hb6:=gBs (hb5.alloc hb5.size _) hgr6 (fun x hx=>by have e:g5=x:=Option.some.inj hx;have:=(hown5.lt g5 rfl).1;omega);have q3:ck C n I (k+1)=(L.take j ++ [2],0):=by rw [HST.out,HT.out];rfl
    go_roundw
    case rel=>exact⟨k+1,g6,cap6,L.take j ++ [2],by omega,by go_num,by rw [q1],q3,q2,hb6⟩
    case measure=>simp [intOf];omega
  by_cases o3:o=3
  ·
   subst o3;have HsW:Hid ((wr.alloc (.cells #[.int .i64 3,.int .i64 mm,.string s] 108)).heap.size=wr.heap.size+1):=World.size_alloc _ _;have HOE:Hid (((wr.alloc (.cells #[.int .i64 3,.int .i64 mm,.string s] 108)).alloc (.cells #[] 3)).ownsRow w.heap.size 3 1 (.slice (some ⟨wr.heap.size+1,0,none⟩) 0 0) 0 []):=by
    have q:=World.ownsRow_made (base:=w.heap.size) (e:=3) (size:=1) (wr.alloc (.cells #[.int .i64 3,.int .i64 mm,.string s] 108)) #[] 0 (by rw [HsW.out];omega) (by unfold maxLen;omega) rfl;rw [HsW.out] at q;exact q
   have hOW:Sk (wr.alloc (.cells #[.int .i64 3,.int .i64 mm,.string s] 108)) w.heap.size g cap L:=own_below hO (bal _ _);have hbW:Below w.heap.size w (wr.alloc (.cells #[.int .i64 3,.int .i64 mm,.string s] 108)):=bstep hb (bal _ _);cases hcol:colI C s n with
   | none=>
    have HT:Hid (tyI C n ⟨3,mm,s⟩ (L.drop j)=(0,3)):=by show _=_;simp [tyI,hcol]
    have HZ:colZ (colI C s n)=-1:=by rw [hcol];rfl
    clear hcol;by_cases hcj:j<cap
    ·
     have hcj1:(j:Int)<cap:=by omega
     go_wp2_with (first | (go_at_call 67;refine(sCol2 ac n cc C s _ (hC.later hbW) hn).mono ?_;rintro e w4 ⟨rfl,hb4⟩;have B4:=bstep hbW hb4;have O4:=own_below hOW hb4;have HOE4:Hid ((w4.alloc (.cells #[] 3)).ownsRow w.heap.size 3 1 (.slice (some ⟨w4.heap.size,0,none⟩) 0 0) 0 []):=World.ownsRow_made w4 #[] 0 (by have:=B4.size;omega) (by unfold maxLen;omega) rfl;have hs4:=B4.size;rw [HZ]) | (go_at_call 66;refine(sArity (3) _).mono ?_;rintro e w3 ⟨rfl,rfl⟩))
     have hE:=HFL.out 3 (by decide) (by rw [HT.out]);refine bodyPost_ret (results_tmp2 rfl _ _ _) rfl ⟨?_,B4⟩;rw [hE];rfl
    ·
     obtain rfl:j=cap:=by omega
     go_wp2_with (first | (go_at_call 67;refine(sCol2 ac n cc C s _ (hC.later hbW) hn).mono ?_;rintro e w4 ⟨rfl,hb4⟩;have B4:=bstep hbW hb4;have O4:=own_below hOW hb4;have HOE4:Hid ((w4.alloc (.cells #[] 3)).ownsRow w.heap.size 3 1 (.slice (some ⟨w4.heap.size,0,none⟩) 0 0) 0 []):=World.ownsRow_made w4 #[] 0 (by have:=B4.size;omega) (by unfold maxLen;omega) rfl;have hs4:=B4.size;rw [HZ]) | (go_at_call 66;refine(sArity (3) _).mono ?_;rintro e w3 ⟨rfl,rfl⟩))
     have hE:=HFL.out 3 (by decide) (by rw [HT.out]);refine bodyPost_ret (results_tmp2 rfl _ _ _) rfl ⟨?_,B4⟩;rw [hE];rfl
   | some q=>
    have HT:Hid (tyI C n ⟨3,mm,s⟩ (L.drop j)=((C q).t,0)):=by show _=_;simp [tyI,hcol]
    have HZ:colZ (colI C s n)=(q:Int):=by rw [hcol];rfl
    have hq:=(colI_lt hcol).1;have hq0:(0:Int)<=(q:Int):=by omega
    have hq1:(q:Int)<n:=by omega
    clear hcol;obtain⟨b2,off2,rfl,-⟩:=hC q hq;by_cases hcj:j<cap
    ·
     have hcj1:(j:Int)<cap:=by omega
     go_wp2_with (first | (at_builtin;have _h:=hb5;refine wpList_append_lies _ rfl _ _ _ rfl w.heap.size 3 i0 (.int .i64 0) 1 8 Tryz.underlying148 HI.out hz0 hz1 hz2 rfl (by omega) (.slice (some ⟨g5,0,none⟩) j cap5) j (ints (L.take j)) rfl (hown5.alloc _) ⟨w5.heap.size,0,none⟩ 1 1 [.int .i64 ((C q).t)] rfl rfl (World.news_of_block (heap_alloc_new w5 _)) (ones _ rfl) (by omega) (by unfold maxLen;have:=HLE.out;omega) (by have:=HLE.out;omega) (by simp;omega) _ rfl ?_;intro g6 cap6 w6 hO6 hgr6 hat6 hlt6) | (at_builtin;refine wpList_append_own _ rfl _ _ 148 rfl w.heap.size 3 i0 (.int .i64 0) 1 8 Tryz.underlying148 HI.out hz0 hz1 hz2 rfl (by omega) (.slice (some ⟨w4.heap.size,0,none⟩) 0 0) 0 [] rfl HOE4.out ⟨g,0,none⟩ j cap (ints (L.take j)) rfl (by rw [ints_len,List.length_take];omega) (Sk.news (own_below O4 (bal _ _))) (ints_one _) (by unfold maxLen;have:=HLE.out;omega) (by have:=HLE.out;omega) (by simp;omega) ?_;intro v1 w5 hown5 hgrow5 hnil5;obtain⟨g5,cap5,rfl⟩:=own_some hown5 (fun e=>by have:=hnil5.1 e;simp at this);rw [Nat.zero_add,List.nil_append] at hown5;have hb5:=gBs (bstep B4 (bal _ (.cells #[] 3))) hgrow5 (fun x hx=>by have e:w4.heap.size=x:=Option.some.inj hx;omega);have hs5:=hb5.size;clear hnil5) | (go_at_call 67;refine(sCol2 _ n cc C s _ (hC.later hbW) hn).mono ?_;rintro e w4 ⟨rfl,hb4⟩;have B4:=bstep hbW hb4;have O4:=own_below hOW hb4;have HOE4:Hid ((w4.alloc (.cells #[] 3)).ownsRow w.heap.size 3 1 (.slice (some ⟨w4.heap.size,0,none⟩) 0 0) 0 []):=World.ownsRow_made w4 #[] 0 (by have:=B4.size;omega) (by unfold maxLen;omega) rfl;have hs4:=B4.size;rw [HZ];obtain⟨b3,off3,e3,t0,t1,-⟩:=hC.later B4 q hq;obtain⟨rfl,rfl⟩:b2=b3/\off2=off3:=(by simpa using e3);clear e3) | (go_at_call 66;refine(sArity (3) _).mono ?_;rintro e w3 ⟨rfl,rfl⟩))
     obtain⟨q1,q2⟩:=sk_end hjl hO6;have hb6:=gBs (hb5.alloc hb5.size _) hgr6 (fun x hx=>by have e:g5=x:=Option.some.inj hx;have:=(hown5.lt g5 rfl).1;omega);have q3:ck C n I (k+1)=(L.take j ++ [(C q).t],0):=by rw [HST.out,HT.out];rfl
     go_roundw
     case rel=>exact⟨k+1,g6,cap6,L.take j ++ [(C q).t],by omega,by go_num,by rw [q1],q3,q2,hb6⟩
     case measure=>simp [intOf];omega
    ·
     obtain rfl:j=cap:=by omega
     go_wp2_with (first | (at_builtin;have _h:=hb5;refine wpList_append_lies _ rfl _ _ _ rfl w.heap.size 3 i0 (.int .i64 0) 1 8 Tryz.underlying148 HI.out hz0 hz1 hz2 rfl (by omega) (.slice (some ⟨g5,0,none⟩) j cap5) j (ints (L.take j)) rfl (hown5.alloc _) ⟨w5.heap.size,0,none⟩ 1 1 [.int .i64 ((C q).t)] rfl rfl (World.news_of_block (heap_alloc_new w5 _)) (ones _ rfl) (by omega) (by unfold maxLen;have:=HLE.out;omega) (by have:=HLE.out;omega) (by simp;omega) _ rfl ?_;intro g6 cap6 w6 hO6 hgr6 hat6 hlt6) | (at_builtin;refine wpList_append_own _ rfl _ _ 148 rfl w.heap.size 3 i0 (.int .i64 0) 1 8 Tryz.underlying148 HI.out hz0 hz1 hz2 rfl (by omega) (.slice (some ⟨w4.heap.size,0,none⟩) 0 0) 0 [] rfl HOE4.out ⟨g,0,none⟩ j j (ints (L.take j)) rfl (by rw [ints_len,List.length_take];omega) (Sk.news (own_below O4 (bal _ _))) (ints_one _) (by unfold maxLen;have:=HLE.out;omega) (by have:=HLE.out;omega) (by simp;omega) ?_;intro v1 w5 hown5 hgrow5 hnil5;obtain⟨g5,cap5,rfl⟩:=own_some hown5 (fun e=>by have:=hnil5.1 e;simp at this);rw [Nat.zero_add,List.nil_append] at hown5;have hb5:=gBs (bstep B4 (bal _ (.cells #[] 3))) hgrow5 (fun x hx=>by have e:w4.heap.size=x:=Option.some.inj hx;omega);have hs5:=hb5.size;clear hnil5) | (go_at_call 67;refine(sCol2 _ n cc C s _ (hC.later hbW) hn).mono ?_;rintro e w4 ⟨rfl,hb4⟩;have B4:=bstep hbW hb4;have O4:=own_below hOW hb4;have HOE4:Hid ((w4.alloc (.cells #[] 3)).ownsRow w.heap.size 3 1 (.slice (some ⟨w4.heap.size,0,none⟩) 0 0) 0 []):=World.ownsRow_made w4 #[] 0 (by have:=B4.size;omega) (by unfold maxLen;omega) rfl;have hs4:=B4.size;rw [HZ];obtain⟨b3,off3,e3,t0,t1,-⟩:=hC.later B4 q hq;obtain⟨rfl,rfl⟩:b2=b3/\off2=off3:=(by simpa using e3);clear e3) | (go_at_call 66;refine(sArity (3) _).mono ?_;rintro e w3 ⟨rfl,rfl⟩))
     obtain⟨q1,q2⟩:=sk_end hjl hO6;have hb6:=gBs (hb5.alloc hb5.size _) hgr6 (fun x hx=>by have e:g5=x:=Option.some.inj hx;have:=(hown5.lt g5 rfl).1;omega);have q3:ck C n I (k+1)=(L.take j ++ [(C q).t],0):=by rw [HST.out,HT.out];rfl
     go_roundw
     case rel=>exact⟨k+1,g6,cap6,L.take j ++ [(C q).t],by omega,by go_num,by rw [q1],q3,q2,hb6⟩
     case measure=>simp [intOf];omega
  by_cases o7:o=7
  ·
   subst o7;have ea:arity 7=2:=by simp [arity]
   have hjL:L.length=j+2:=by omega
   have hjc:j<cap:=by omega
   have hjc1:(j:Int)<cap:=by omega
   have ix0:(0:Int)<((L.length - j:Nat):Int):=by omega
   have ix1:(1:Int)<((L.length - j:Nat):Int):=by omega
   have iz0:0<L.length - j:=by omega
   have iz1:1<L.length - j:=by omega
   have HsW:Hid ((wr.alloc (.cells #[.int .i64 7,.int .i64 mm,.string s] 108)).heap.size=wr.heap.size+1):=World.size_alloc _ _;have HOE:Hid (((wr.alloc (.cells #[.int .i64 7,.int .i64 mm,.string s] 108)).alloc (.cells #[] 3)).ownsRow w.heap.size 3 1 (.slice (some ⟨wr.heap.size+1,0,none⟩) 0 0) 0 []):=by
    have q:=World.ownsRow_made (base:=w.heap.size) (e:=3) (size:=1) (wr.alloc (.cells #[.int .i64 7,.int .i64 mm,.string s] 108)) #[] 0 (by rw [HsW.out];omega) (by unfold maxLen;omega) rfl;rw [HsW.out] at q;exact q
   have hOW:Sk (wr.alloc (.cells #[.int .i64 7,.int .i64 mm,.string s] 108)) w.heap.size g cap L:=own_below hO (bal _ _);have hbW:Below w.heap.size w (wr.alloc (.cells #[.int .i64 7,.int .i64 mm,.string s] 108)):=bstep hb (bal _ _);have a0:=hOW.at (j:=j) (by omega);have a1:=hOW.at (j:=j+1) (by omega);have HX0:Hid ((L.drop j).getD 0 0=L.getD j 0):=drop_getD L j 0;have HX1:Hid ((L.drop j).getD 1 0=L.getD (j+1) 0):=drop_getD L j 1;obtain⟨x,hx⟩:∃ x,L.getD j 0=x:=⟨_,rfl⟩;rw [hx] at a0 HX0;clear hx;obtain⟨y,hy⟩:∃ y,L.getD (j+1) 0=y:=⟨_,rfl⟩;rw [hy] at a1 HX1;clear hy;clear ea hjL;have HOEd:Hid (((wr.alloc (.cells #[.int .i64 7,.int .i64 mm,.string s] 108)).drew.alloc (.cells #[] 3)).ownsRow w.heap.size 3 1 (.slice (some ⟨wr.heap.size+1,0,none⟩) 0 0) 0 []):=by
    have q:=World.ownsRow_made (base:=w.heap.size) (e:=3) (size:=1) (wr.alloc (.cells #[.int .i64 7,.int .i64 mm,.string s] 108)).drew #[] 0 (by show w.heap.size<=(wr.alloc (.cells #[.int .i64 7,.int .i64 mm,.string s] 108)).heap.size;rw [HsW.out];omega) (by unfold maxLen;omega) rfl;have e:(wr.alloc (.cells #[.int .i64 7,.int .i64 mm,.string s] 108)).drew.heap.size=wr.heap.size+1:=HsW.out;rw [e] at q;exact q
   have hOd:Sk (wr.alloc (.cells #[.int .i64 7,.int .i64 mm,.string s] 108)).drew w.heap.size g cap L:=own_below hOW (bdrV _);have hbd:Below w.heap.size w (wr.alloc (.cells #[.int .i64 7,.int .i64 mm,.string s] 108)).drew:=bstep hbW (bdrV _);by_cases hxy:x=y
   ·
    have HT:Hid (tyI C n ⟨7,mm,s⟩ (L.drop j)=(1,0)):=by show _=_;simp only [tyI];rw [HX0.out,HX1.out,hxy];simp
    subst hxy;go_upto_region 24 with (go_at_call 66;refine(sArity (7) _).mono ?_;rintro e w3 ⟨rfl,rfl⟩)
    refine wp_region_held_drew (S:=fun x=>Below (wr.alloc (.cells #[.int .i64 7,.int .i64 mm,.string s] 108)).heap.size (wr.alloc (.cells #[.int .i64 7,.int .i64 mm,.string s] 108)) x) (by kernel_rfl) (bdrV _) (fun jH=>?_);refine tk 0 qUd0 (fun x jS=>by go_simp<;>rfl) jH ?_
    try simp only [zS]
    refine tk 1 qUd1 (fun x jS=>by go_simp<;>rfl) jH ?_
    try simp only [zS]
    refine tk 2 qUd2 (fun x jS=>by have k0:=keepB jS a0;have k1:=keepB jS a1;go_simp<;>rfl) jH ?_
    try simp only [zS]
    refine tk 3 qUd3 (fun x jS=>by go_simp<;>rfl) jH ?_
    try simp only [zS]
    refine tk 4 qUd4 (fun x jS=>by go_simp<;>rfl) jH ?_
    try simp only [zS]
    refine tk 5 qUd5 (fun x jS=>by have k0:=keepB jS a0;have k1:=keepB jS a1;go_simp<;>rfl) jH ?_
    try simp only [zS]
    refine tk 6 qUd6 (fun x jS=>by go_simp<;>rfl) jH ?_
    try simp only [zS]
    refine tk 7 qUd7 (fun x jS=>by go_simp<;>rfl) jH ?_
    try simp only [zS]
    refine wpAnyH_done (by kernel_rfl) ?_ _;clear jH;go_wp2_with (first | (at_builtin;have _h:=hb5;refine wpList_append_lies _ rfl _ _ _ rfl w.heap.size 3 i0 (.int .i64 0) 1 8 Tryz.underlying148 HI.out hz0 hz1 hz2 rfl (by omega) (.slice (some ⟨g5,0,none⟩) j cap5) j (ints (L.take j)) rfl (hown5.alloc _) ⟨w5.heap.size,0,none⟩ 1 1 [.int .i64 (1)] rfl rfl (World.news_of_block (heap_alloc_new w5 _)) (ones _ rfl) (by omega) (by unfold maxLen;have:=HLE.out;omega) (by have:=HLE.out;omega) (by simp;omega) _ rfl ?_;intro g6 cap6 w6 hO6 hgr6 hat6 hlt6) | (at_builtin;refine wpList_append_own _ rfl _ _ 148 rfl w.heap.size 3 i0 (.int .i64 0) 1 8 Tryz.underlying148 HI.out hz0 hz1 hz2 rfl (by omega) (.slice (some ⟨wr.heap.size+1,0,none⟩) 0 0) 0 [] rfl HOEd.out ⟨g,0,none⟩ j cap (ints (L.take j)) rfl (by rw [ints_len,List.length_take];omega) (Sk.news (own_below hOd (bal _ _))) (ints_one _) (by unfold maxLen;have:=HLE.out;omega) (by have:=HLE.out;omega) (by simp;omega) ?_;intro v1 w5 hown5 hgrow5 hnil5;obtain⟨g5,cap5,rfl⟩:=own_some hown5 (fun e=>by have:=hnil5.1 e;simp at this);rw [Nat.zero_add,List.nil_append] at hown5;have hb5:=gBs (bstep hbd (bal _ (.cells #[] 3))) hgrow5 (fun x hx=>by have e:wr.heap.size+1=x:=Option.some.inj hx;omega);have hs5:=hb5.size;clear hnil5))
    obtain⟨q1,q2⟩:=sk_end hjl hO6;have hb6:=gBs (hb5.alloc hb5.size _) hgr6 (fun x hx=>by have e:g5=x:=Option.some.inj hx;have:=(hown5.lt g5 rfl).1;omega);have q3:ck C n I (k+1)=(L.take j ++ [1],0):=by rw [HST.out,HT.out];rfl
    go_roundw
    case rel=>exact⟨k+1,g6,cap6,L.take j ++ [1],by omega,by go_num,by rw [q1],q3,q2,hb6⟩
    case measure=>simp [intOf];omega
   ·
    have HT:Hid (tyI C n ⟨7,mm,s⟩ (L.drop j)=(0,4)):=by show _=_;simp only [tyI];rw [HX0.out,HX1.out];simp [hxy]
    have nxy:(x == y)=false:=by simpa using hxy
    go_upto_region 24 with (go_at_call 66;refine(sArity (7) _).mono ?_;rintro e w3 ⟨rfl,rfl⟩)
    refine wp_region_held_drew (S:=fun x=>Below (wr.alloc (.cells #[.int .i64 7,.int .i64 mm,.string s] 108)).heap.size (wr.alloc (.cells #[.int .i64 7,.int .i64 mm,.string s] 108)) x) (by kernel_rfl) (bdrV _) (fun jH=>?_);refine tk 0 qUd0 (fun x jS=>by go_simp<;>rfl) jH ?_
    try simp only [zS]
    refine tk 1 qUd1 (fun x jS=>by go_simp<;>rfl) jH ?_
    try simp only [zS]
    refine tk 2 qUd2 (fun x jS=>by have k0:=keepB jS a0;have k1:=keepB jS a1;go_simp<;>rfl) jH ?_
    try simp only [zS]
    refine tk 3 qUd3 (fun x jS=>by go_simp<;>rfl) jH ?_
    try simp only [zS]
    refine tk 4 qUd4 (fun x jS=>by go_simp<;>rfl) jH ?_
    try simp only [zS]
    refine tk 5 qUd5 (fun x jS=>by have k0:=keepB jS a0;have k1:=keepB jS a1;go_simp<;>rfl) jH ?_
    try simp only [zS]
    refine tk 6 qUd6 (fun x jS=>by go_simp<;>rfl) jH ?_
    try simp only [zS]
    refine tk 7 qUd7 (fun x jS=>by go_simp<;>rfl) jH ?_
    try simp only [zS]
    refine wpAnyH_done (by kernel_rfl) ?_ _;clear jH;go_wp2;have hE:=HFL.out 4 (by decide) (by rw [HT.out]);refine bodyPost_ret (results_tmp2 rfl _ _ _) rfl ⟨?_,hbd⟩;rw [hE];rfl
  by_cases o8:o=8
  ·
   subst o8;have ea:arity 8=2:=by simp [arity]
   have hjL:L.length=j+2:=by omega
   have hjc:j<cap:=by omega
   have hjc1:(j:Int)<cap:=by omega
   have ix0:(0:Int)<((L.length - j:Nat):Int):=by omega
   have ix1:(1:Int)<((L.length - j:Nat):Int):=by omega
   have iz0:0<L.length - j:=by omega
   have iz1:1<L.length - j:=by omega
   have HsW:Hid ((wr.alloc (.cells #[.int .i64 8,.int .i64 mm,.string s] 108)).heap.size=wr.heap.size+1):=World.size_alloc _ _;have HOE:Hid (((wr.alloc (.cells #[.int .i64 8,.int .i64 mm,.string s] 108)).alloc (.cells #[] 3)).ownsRow w.heap.size 3 1 (.slice (some ⟨wr.heap.size+1,0,none⟩) 0 0) 0 []):=by
    have q:=World.ownsRow_made (base:=w.heap.size) (e:=3) (size:=1) (wr.alloc (.cells #[.int .i64 8,.int .i64 mm,.string s] 108)) #[] 0 (by rw [HsW.out];omega) (by unfold maxLen;omega) rfl;rw [HsW.out] at q;exact q
   have hOW:Sk (wr.alloc (.cells #[.int .i64 8,.int .i64 mm,.string s] 108)) w.heap.size g cap L:=own_below hO (bal _ _);have hbW:Below w.heap.size w (wr.alloc (.cells #[.int .i64 8,.int .i64 mm,.string s] 108)):=bstep hb (bal _ _);have a0:=hOW.at (j:=j) (by omega);have a1:=hOW.at (j:=j+1) (by omega);have HX0:Hid ((L.drop j).getD 0 0=L.getD j 0):=drop_getD L j 0;have HX1:Hid ((L.drop j).getD 1 0=L.getD (j+1) 0):=drop_getD L j 1;obtain⟨x,hx⟩:∃ x,L.getD j 0=x:=⟨_,rfl⟩;rw [hx] at a0 HX0;clear hx;obtain⟨y,hy⟩:∃ y,L.getD (j+1) 0=y:=⟨_,rfl⟩;rw [hy] at a1 HX1;clear hy;clear ea hjL;have HOEd:Hid (((wr.alloc (.cells #[.int .i64 8,.int .i64 mm,.string s] 108)).drew.alloc (.cells #[] 3)).ownsRow w.heap.size 3 1 (.slice (some ⟨wr.heap.size+1,0,none⟩) 0 0) 0 []):=by
    have q:=World.ownsRow_made (base:=w.heap.size) (e:=3) (size:=1) (wr.alloc (.cells #[.int .i64 8,.int .i64 mm,.string s] 108)).drew #[] 0 (by show w.heap.size<=(wr.alloc (.cells #[.int .i64 8,.int .i64 mm,.string s] 108)).heap.size;rw [HsW.out];omega) (by unfold maxLen;omega) rfl;have e:(wr.alloc (.cells #[.int .i64 8,.int .i64 mm,.string s] 108)).drew.heap.size=wr.heap.size+1:=HsW.out;rw [e] at q;exact q
   have hOd:Sk (wr.alloc (.cells #[.int .i64 8,.int .i64 mm,.string s] 108)).drew w.heap.size g cap L:=own_below hOW (bdrV _);have hbd:Below w.heap.size w (wr.alloc (.cells #[.int .i64 8,.int .i64 mm,.string s] 108)).drew:=bstep hbW (bdrV _);by_cases hxy:x=y
   ·
    have HT:Hid (tyI C n ⟨8,mm,s⟩ (L.drop j)=(1,0)):=by show _=_;simp only [tyI];rw [HX0.out,HX1.out,hxy];simp
    subst hxy;go_upto_region 24 with (go_at_call 66;refine(sArity (8) _).mono ?_;rintro e w3 ⟨rfl,rfl⟩)
    refine wp_region_held_drew (S:=fun x=>Below (wr.alloc (.cells #[.int .i64 8,.int .i64 mm,.string s] 108)).heap.size (wr.alloc (.cells #[.int .i64 8,.int .i64 mm,.string s] 108)) x) (by kernel_rfl) (bdrV _) (fun jH=>?_);refine tk 0 qUd0 (fun x jS=>by go_simp<;>rfl) jH ?_
    try simp only [zS]
    refine tk 1 qUd1 (fun x jS=>by go_simp<;>rfl) jH ?_
    try simp only [zS]
    refine tk 2 qUd2 (fun x jS=>by have k0:=keepB jS a0;have k1:=keepB jS a1;go_simp<;>rfl) jH ?_
    try simp only [zS]
    refine tk 3 qUd3 (fun x jS=>by go_simp<;>rfl) jH ?_
    try simp only [zS]
    refine tk 4 qUd4 (fun x jS=>by go_simp<;>rfl) jH ?_
    try simp only [zS]
    refine tk 5 qUd5 (fun x jS=>by have k0:=keepB jS a0;have k1:=keepB jS a1;go_simp<;>rfl) jH ?_
    try simp only [zS]
    refine tk 6 qUd6 (fun x jS=>by go_simp<;>rfl) jH ?_
    try simp only [zS]
    refine tk 7 qUd7 (fun x jS=>by go_simp<;>rfl) jH ?_
    try simp only [zS]
    refine wpAnyH_done (by kernel_rfl) ?_ _;clear jH;go_wp2_with (first | (at_builtin;have _h:=hb5;refine wpList_append_lies _ rfl _ _ _ rfl w.heap.size 3 i0 (.int .i64 0) 1 8 Tryz.underlying148 HI.out hz0 hz1 hz2 rfl (by omega) (.slice (some ⟨g5,0,none⟩) j cap5) j (ints (L.take j)) rfl (hown5.alloc _) ⟨w5.heap.size,0,none⟩ 1 1 [.int .i64 (1)] rfl rfl (World.news_of_block (heap_alloc_new w5 _)) (ones _ rfl) (by omega) (by unfold maxLen;have:=HLE.out;omega) (by have:=HLE.out;omega) (by simp;omega) _ rfl ?_;intro g6 cap6 w6 hO6 hgr6 hat6 hlt6) | (at_builtin;refine wpList_append_own _ rfl _ _ 148 rfl w.heap.size 3 i0 (.int .i64 0) 1 8 Tryz.underlying148 HI.out hz0 hz1 hz2 rfl (by omega) (.slice (some ⟨wr.heap.size+1,0,none⟩) 0 0) 0 [] rfl HOEd.out ⟨g,0,none⟩ j cap (ints (L.take j)) rfl (by rw [ints_len,List.length_take];omega) (Sk.news (own_below hOd (bal _ _))) (ints_one _) (by unfold maxLen;have:=HLE.out;omega) (by have:=HLE.out;omega) (by simp;omega) ?_;intro v1 w5 hown5 hgrow5 hnil5;obtain⟨g5,cap5,rfl⟩:=own_some hown5 (fun e=>by have:=hnil5.1 e;simp at this);rw [Nat.zero_add,List.nil_append] at hown5;have hb5:=gBs (bstep hbd (bal _ (.cells #[] 3))) hgrow5 (fun x hx=>by have e:wr.heap.size+1=x:=Option.some.inj hx;omega);have hs5:=hb5.size;clear hnil5))
    obtain⟨q1,q2⟩:=sk_end hjl hO6;have hb6:=gBs (hb5.alloc hb5.size _) hgr6 (fun x hx=>by have e:g5=x:=Option.some.inj hx;have:=(hown5.lt g5 rfl).1;omega);have q3:ck C n I (k+1)=(L.take j ++ [1],0):=by rw [HST.out,HT.out];rfl
    go_roundw
    case rel=>exact⟨k+1,g6,cap6,L.take j ++ [1],by omega,by go_num,by rw [q1],q3,q2,hb6⟩
    case measure=>simp [intOf];omega
   ·
    have HT:Hid (tyI C n ⟨8,mm,s⟩ (L.drop j)=(0,4)):=by show _=_;simp only [tyI];rw [HX0.out,HX1.out];simp [hxy]
    have nxy:(x == y)=false:=by simpa using hxy
    go_upto_region 24 with (go_at_call 66;refine(sArity (8) _).mono ?_;rintro e w3 ⟨rfl,rfl⟩)
    refine wp_region_held_drew (S:=fun x=>Below (wr.alloc (.cells #[.int .i64 8,.int .i64 mm,.string s] 108)).heap.size (wr.alloc (.cells #[.int .i64 8,.int .i64 mm,.string s] 108)) x) (by kernel_rfl) (bdrV _) (fun jH=>?_);refine tk 0 qUd0 (fun x jS=>by go_simp<;>rfl) jH ?_
    try simp only [zS]
    refine tk 1 qUd1 (fun x jS=>by go_simp<;>rfl) jH ?_
    try simp only [zS]
    refine tk 2 qUd2 (fun x jS=>by have k0:=keepB jS a0;have k1:=keepB jS a1;go_simp<;>rfl) jH ?_
    try simp only [zS]
    refine tk 3 qUd3 (fun x jS=>by go_simp<;>rfl) jH ?_
    try simp only [zS]
    refine tk 4 qUd4 (fun x jS=>by go_simp<;>rfl) jH ?_
    try simp only [zS]
    refine tk 5 qUd5 (fun x jS=>by have k0:=keepB jS a0;have k1:=keepB jS a1;go_simp<;>rfl) jH ?_
    try simp only [zS]
    refine tk 6 qUd6 (fun x jS=>by go_simp<;>rfl) jH ?_
    try simp only [zS]
    refine tk 7 qUd7 (fun x jS=>by go_simp<;>rfl) jH ?_
    try simp only [zS]
    refine wpAnyH_done (by kernel_rfl) ?_ _;clear jH;go_wp2;have hE:=HFL.out 4 (by decide) (by rw [HT.out]);refine bodyPost_ret (results_tmp2 rfl _ _ _) rfl ⟨?_,hbd⟩;rw [hE];rfl
  by_cases o12:o=12
  ·
   subst o12;have ea:arity 12=2:=by simp [arity]
   have hjL:L.length=j+2:=by omega
   have hjc:j<cap:=by omega
   have hjc1:(j:Int)<cap:=by omega
   have ix0:(0:Int)<((L.length - j:Nat):Int):=by omega
   have ix1:(1:Int)<((L.length - j:Nat):Int):=by omega
   have iz0:0<L.length - j:=by omega
   have iz1:1<L.length - j:=by omega
   have HsW:Hid ((wr.alloc (.cells #[.int .i64 12,.int .i64 mm,.string s] 108)).heap.size=wr.heap.size+1):=World.size_alloc _ _;have HOE:Hid (((wr.alloc (.cells #[.int .i64 12,.int .i64 mm,.string s] 108)).alloc (.cells #[] 3)).ownsRow w.heap.size 3 1 (.slice (some ⟨wr.heap.size+1,0,none⟩) 0 0) 0 []):=by
    have q:=World.ownsRow_made (base:=w.heap.size) (e:=3) (size:=1) (wr.alloc (.cells #[.int .i64 12,.int .i64 mm,.string s] 108)) #[] 0 (by rw [HsW.out];omega) (by unfold maxLen;omega) rfl;rw [HsW.out] at q;exact q
   have hOW:Sk (wr.alloc (.cells #[.int .i64 12,.int .i64 mm,.string s] 108)) w.heap.size g cap L:=own_below hO (bal _ _);have hbW:Below w.heap.size w (wr.alloc (.cells #[.int .i64 12,.int .i64 mm,.string s] 108)):=bstep hb (bal _ _);have a0:=hOW.at (j:=j) (by omega);have a1:=hOW.at (j:=j+1) (by omega);have HX0:Hid ((L.drop j).getD 0 0=L.getD j 0):=drop_getD L j 0;have HX1:Hid ((L.drop j).getD 1 0=L.getD (j+1) 0):=drop_getD L j 1;obtain⟨x,hx⟩:∃ x,L.getD j 0=x:=⟨_,rfl⟩;rw [hx] at a0 HX0;clear hx;obtain⟨y,hy⟩:∃ y,L.getD (j+1) 0=y:=⟨_,rfl⟩;rw [hy] at a1 HX1;clear hy;clear ea hjL;by_cases hx2:x=2
   ·
    by_cases hy2:y=2
    ·
     have HT:Hid (tyI C n ⟨12,mm,s⟩ (L.drop j)=(2,0)):=by show _=_;simp only [tyI];rw [HX0.out,HX1.out,hx2,hy2];simp
     subst hx2;subst hy2;go_wp2_with (first | (at_builtin;have _h:=hb5;refine wpList_append_lies _ rfl _ _ _ rfl w.heap.size 3 i0 (.int .i64 0) 1 8 Tryz.underlying148 HI.out hz0 hz1 hz2 rfl (by omega) (.slice (some ⟨g5,0,none⟩) j cap5) j (ints (L.take j)) rfl (hown5.alloc _) ⟨w5.heap.size,0,none⟩ 1 1 [.int .i64 (2)] rfl rfl (World.news_of_block (heap_alloc_new w5 _)) (ones _ rfl) (by omega) (by unfold maxLen;have:=HLE.out;omega) (by have:=HLE.out;omega) (by simp;omega) _ rfl ?_;intro g6 cap6 w6 hO6 hgr6 hat6 hlt6) | (at_builtin;refine wpList_append_own _ rfl _ _ 148 rfl w.heap.size 3 i0 (.int .i64 0) 1 8 Tryz.underlying148 HI.out hz0 hz1 hz2 rfl (by omega) (.slice (some ⟨wr.heap.size+1,0,none⟩) 0 0) 0 [] rfl HOE.out ⟨g,0,none⟩ j cap (ints (L.take j)) rfl (by rw [ints_len,List.length_take];omega) (Sk.news (own_below hOW (bal _ _))) (ints_one _) (by unfold maxLen;have:=HLE.out;omega) (by have:=HLE.out;omega) (by simp;omega) ?_;intro v1 w5 hown5 hgrow5 hnil5;obtain⟨g5,cap5,rfl⟩:=own_some hown5 (fun e=>by have:=hnil5.1 e;simp at this);rw [Nat.zero_add,List.nil_append] at hown5;have hb5:=gBs (bstep hbW (bal _ (.cells #[] 3))) hgrow5 (fun x hx=>by have e:wr.heap.size+1=x:=Option.some.inj hx;omega);have hs5:=hb5.size;clear hnil5) | (go_at_call 66;refine(sArity (12) _).mono ?_;rintro e w3 ⟨rfl,rfl⟩))
     obtain⟨q1,q2⟩:=sk_end hjl hO6;have hb6:=gBs (hb5.alloc hb5.size _) hgr6 (fun x hx=>by have e:g5=x:=Option.some.inj hx;have:=(hown5.lt g5 rfl).1;omega);have q3:ck C n I (k+1)=(L.take j ++ [2],0):=by rw [HST.out,HT.out];rfl
     go_roundw
     case rel=>exact⟨k+1,g6,cap6,L.take j ++ [2],by omega,by go_num,by rw [q1],q3,q2,hb6⟩
     case measure=>simp [intOf];omega
    ·
     have HT:Hid (tyI C n ⟨12,mm,s⟩ (L.drop j)=(0,4)):=by show _=_;simp only [tyI];rw [HX0.out,HX1.out];simp [hy2]
     subst hx2;have ny:(y == 2)=false:=by simpa using hy2
     go_wp2_with ((go_at_call 66;refine(sArity (12) _).mono ?_;rintro e w3 ⟨rfl,rfl⟩))
     have hE:=HFL.out 4 (by decide) (by rw [HT.out]);refine bodyPost_ret (results_tmp2 rfl _ _ _) rfl ⟨?_,hbW⟩;rw [hE];rfl
   ·
    have HT:Hid (tyI C n ⟨12,mm,s⟩ (L.drop j)=(0,4)):=by show _=_;simp only [tyI];rw [HX0.out,HX1.out];simp [hx2]
    have nx:(x == 2)=false:=by simpa using hx2
    go_wp2_with ((go_at_call 66;refine(sArity (12) _).mono ?_;rintro e w3 ⟨rfl,rfl⟩))
    have hE:=HFL.out 4 (by decide) (by rw [HT.out]);refine bodyPost_ret (results_tmp2 rfl _ _ _) rfl ⟨?_,hbW⟩;rw [hE];rfl
  by_cases o13:o=13
  ·
   subst o13;have ea:arity 13=1:=by simp [arity]
   have hjL:L.length=j+1:=by omega
   have hjc:j<cap:=by omega
   have hjc1:(j:Int)<cap:=by omega
   have ix0:(0:Int)<((L.length - j:Nat):Int):=by omega
   have iz0:0<L.length - j:=by omega
   have HsW:Hid ((wr.alloc (.cells #[.int .i64 13,.int .i64 mm,.string s] 108)).heap.size=wr.heap.size+1):=World.size_alloc _ _;have HOE:Hid (((wr.alloc (.cells #[.int .i64 13,.int .i64 mm,.string s] 108)).alloc (.cells #[] 3)).ownsRow w.heap.size 3 1 (.slice (some ⟨wr.heap.size+1,0,none⟩) 0 0) 0 []):=by
    have q:=World.ownsRow_made (base:=w.heap.size) (e:=3) (size:=1) (wr.alloc (.cells #[.int .i64 13,.int .i64 mm,.string s] 108)) #[] 0 (by rw [HsW.out];omega) (by unfold maxLen;omega) rfl;rw [HsW.out] at q;exact q
   have hOW:Sk (wr.alloc (.cells #[.int .i64 13,.int .i64 mm,.string s] 108)) w.heap.size g cap L:=own_below hO (bal _ _);have hbW:Below w.heap.size w (wr.alloc (.cells #[.int .i64 13,.int .i64 mm,.string s] 108)):=bstep hb (bal _ _);have a0:=hOW.at (j:=j) (by omega);have HX0:Hid ((L.drop j).getD 0 0=L.getD j 0):=drop_getD L j 0;obtain⟨x,hx⟩:∃ x,L.getD j 0=x:=⟨_,rfl⟩;rw [hx] at a0 HX0;clear hx;clear ea hjL;by_cases hx2:x=2
   ·
    have HT:Hid (tyI C n ⟨13,mm,s⟩ (L.drop j)=(1,0)):=by show _=_;simp only [tyI];rw [HX0.out,hx2];simp
    subst hx2;go_wp2_with (first | (at_builtin;have _h:=hb5;refine wpList_append_lies _ rfl _ _ _ rfl w.heap.size 3 i0 (.int .i64 0) 1 8 Tryz.underlying148 HI.out hz0 hz1 hz2 rfl (by omega) (.slice (some ⟨g5,0,none⟩) j cap5) j (ints (L.take j)) rfl (hown5.alloc _) ⟨w5.heap.size,0,none⟩ 1 1 [.int .i64 (1)] rfl rfl (World.news_of_block (heap_alloc_new w5 _)) (ones _ rfl) (by omega) (by unfold maxLen;have:=HLE.out;omega) (by have:=HLE.out;omega) (by simp;omega) _ rfl ?_;intro g6 cap6 w6 hO6 hgr6 hat6 hlt6) | (at_builtin;refine wpList_append_own _ rfl _ _ 148 rfl w.heap.size 3 i0 (.int .i64 0) 1 8 Tryz.underlying148 HI.out hz0 hz1 hz2 rfl (by omega) (.slice (some ⟨wr.heap.size+1,0,none⟩) 0 0) 0 [] rfl HOE.out ⟨g,0,none⟩ j cap (ints (L.take j)) rfl (by rw [ints_len,List.length_take];omega) (Sk.news (own_below hOW (bal _ _))) (ints_one _) (by unfold maxLen;have:=HLE.out;omega) (by have:=HLE.out;omega) (by simp;omega) ?_;intro v1 w5 hown5 hgrow5 hnil5;obtain⟨g5,cap5,rfl⟩:=own_some hown5 (fun e=>by have:=hnil5.1 e;simp at this);rw [Nat.zero_add,List.nil_append] at hown5;have hb5:=gBs (bstep hbW (bal _ (.cells #[] 3))) hgrow5 (fun x hx=>by have e:wr.heap.size+1=x:=Option.some.inj hx;omega);have hs5:=hb5.size;clear hnil5) | (go_at_call 66;refine(sArity (13) _).mono ?_;rintro e w3 ⟨rfl,rfl⟩))
    obtain⟨q1,q2⟩:=sk_end hjl hO6;have hb6:=gBs (hb5.alloc hb5.size _) hgr6 (fun x hx=>by have e:g5=x:=Option.some.inj hx;have:=(hown5.lt g5 rfl).1;omega);have q3:ck C n I (k+1)=(L.take j ++ [1],0):=by rw [HST.out,HT.out];rfl
    go_roundw
    case rel=>exact⟨k+1,g6,cap6,L.take j ++ [1],by omega,by go_num,by rw [q1],q3,q2,hb6⟩
    case measure=>simp [intOf];omega
   ·
    have HT:Hid (tyI C n ⟨13,mm,s⟩ (L.drop j)=(0,4)):=by show _=_;simp only [tyI];rw [HX0.out];simp [hx2]
    have nx:(x == 2)=false:=by simpa using hx2
    go_wp2_with ((go_at_call 66;refine(sArity (13) _).mono ?_;rintro e w3 ⟨rfl,rfl⟩))
    have hE:=HFL.out 4 (by decide) (by rw [HT.out]);refine bodyPost_ret (results_tmp2 rfl _ _ _) rfl ⟨?_,hbW⟩;rw [hE];rfl
  obtain⟨wo,hwo⟩:∃ v,v=wr:=⟨_,rfl⟩;subst hwo;have HsW:Hid ((wo.alloc (.cells #[.int .i64 o,.int .i64 mm,.string s] 108)).heap.size=wo.heap.size+1):=World.size_alloc _ _;have HOE:Hid (((wo.alloc (.cells #[.int .i64 o,.int .i64 mm,.string s] 108)).alloc (.cells #[] 3)).ownsRow w.heap.size 3 1 (.slice (some ⟨wo.heap.size+1,0,none⟩) 0 0) 0 []):=by
   have q:=World.ownsRow_made (base:=w.heap.size) (e:=3) (size:=1) (wo.alloc (.cells #[.int .i64 o,.int .i64 mm,.string s] 108)) #[] 0 (by rw [HsW.out];omega) (by unfold maxLen;omega) rfl;rw [HsW.out] at q;exact q
  have hOW:Sk (wo.alloc (.cells #[.int .i64 o,.int .i64 mm,.string s] 108)) w.heap.size g cap L:=own_below hO (bal _ _);have hbW:Below w.heap.size w (wo.alloc (.cells #[.int .i64 o,.int .i64 mm,.string s] 108)):=bstep hb (bal _ _);have HTY:Hid (tyI C n ⟨o,mm,s⟩ (L.drop j)=if (L.drop j).all (fun x=>x == 1)=true then (1,0) else (0,4)):=by
   show _=_
   simp only [tyI]
   rw [if_neg o2,if_neg o3,if_neg (by omega),if_neg o12,if_neg o13]
  have n2:(o == 2)=false:=by simpa using o2
  have n3:(o == 3)=false:=by simpa using o3
  have n7:(o == 7)=false:=by simpa using o7
  have n8:(o == 8)=false:=by simpa using o8
  have n12:(o == 12)=false:=by simpa using o12
  have n13:(o == 13)=false:=by simpa using o13
  clear o2 o3 o7 o8 o12 o13;by_cases hcj:j<cap
  ·
   have hcj1:(j:Int)<cap:=by omega
   go_wp2_with (go_at_call 66;refine(sArity (o) _).mono ?_;rintro e w3 ⟨rfl,rfl⟩)
   go_loopw [12,15,36] (fun b _ i wx=>∃ q:Nat,q<=L.length - j/\i=.int .i64 q/\b=.bool (((L.drop j).take q).all (fun x=>x == 1))/\wx=(wo.alloc (.cells #[.int .i64 o,.int .i64 mm,.string s] 108))) (fun _ _ i _=>(L.length - j) - (intOf i).toNat)
   case atStart=>exact⟨0,Nat.zero_le _,rfl,rfl,rfl⟩
   case round=>
    obtain⟨q,hq,rfl,rfl,rfl⟩:=hrel;by_cases hql:q<L.length - j
    ·
     have a0:=hOW.at (j:=j+q) (by omega);have HNX:Hid (((L.drop j).take (q+1)).all (fun x=>x == 1)=(((L.drop j).take q).all (fun x=>x == 1) && (L.getD (j+q) 0 == 1))):=all_take L j q (by omega);obtain⟨x,hx⟩:∃ x,L.getD (j+q) 0=x:=⟨_,rfl⟩;rw [hx] at a0 HNX;clear hx;have iq:(q:Int)<((L.length - j:Nat):Int):=by omega
     obtain⟨bb,hbb⟩:∃ bb,((L.drop j).take q).all (fun x=>x == 1)=bb:=⟨_,rfl⟩;rw [hbb] at HNX ⊢;clear hbb;cases bb
     ·
      go_wp2;go_roundw
      case rel=>exact⟨q+1,by omega,by go_num,by rw [HNX.out];rfl,trivial⟩
      case measure=>simp [intOf];omega
     ·
      go_wp2;go_roundw
      case rel=>exact⟨q+1,by omega,by go_num,by rw [HNX.out];simp,trivial⟩
      case measure=>simp [intOf];omega
    ·
     have HAL:Hid (((L.drop j).take q).all (fun x=>x == 1)=(L.drop j).all (fun x=>x == 1)):=by show _=_;rw [List.take_of_length_le (by simp;omega)]
     obtain⟨bb,hbb⟩:∃ bb,(L.drop j).all (fun x=>x == 1)=bb:=⟨_,rfl⟩;rw [HAL.out];rw [hbb] at HTY ⊢;clear hbb HAL;have iq:¬(q:Int)<((L.length - j:Nat):Int):=by omega
     cases bb
     ·
      have HT:Hid (tyI C n ⟨o,mm,s⟩ (L.drop j)=(0,4)):=by show _=_;rw [HTY.out];rfl
      go_wp2;have hE:=HFL.out 4 (by decide) (by rw [HT.out]);refine bodyPost_ret (results_tmp2 rfl _ _ _) rfl ⟨?_,hbW⟩;rw [hE];rfl
     ·
      have HT:Hid (tyI C n ⟨o,mm,s⟩ (L.drop j)=(1,0)):=by show _=_;rw [HTY.out];rfl
      go_wp2_with (first | (at_builtin;have _h:=hb5;refine wpList_append_lies _ rfl _ _ _ rfl w.heap.size 3 i0 (.int .i64 0) 1 8 Tryz.underlying148 HI.out hz0 hz1 hz2 rfl (by omega) (.slice (some ⟨g5,0,none⟩) j cap5) j (ints (L.take j)) rfl (hown5.alloc _) ⟨w5.heap.size,0,none⟩ 1 1 [.int .i64 (1)] rfl rfl (World.news_of_block (heap_alloc_new w5 _)) (ones _ rfl) (by omega) (by unfold maxLen;have:=HLE.out;omega) (by have:=HLE.out;omega) (by simp;omega) _ rfl ?_;intro g6 cap6 w6 hO6 hgr6 hat6 hlt6) | (at_builtin;refine wpList_append_own _ rfl _ _ 148 rfl w.heap.size 3 i0 (.int .i64 0) 1 8 Tryz.underlying148 HI.out hz0 hz1 hz2 rfl (by omega) (.slice (some ⟨wo.heap.size+1,0,none⟩) 0 0) 0 [] rfl HOE.out ⟨g,0,none⟩ j cap (ints (L.take j)) rfl (by rw [ints_len,List.length_take];omega) (Sk.news (own_below hOW (bal _ _))) (ints_one _) (by unfold maxLen;have:=HLE.out;omega) (by have:=HLE.out;omega) (by simp;omega) ?_;intro v1 w5 hown5 hgrow5 hnil5;obtain⟨g5,cap5,rfl⟩:=own_some hown5 (fun e=>by have:=hnil5.1 e;simp at this);rw [Nat.zero_add,List.nil_append] at hown5;have hb5:=gBs (bstep hbW (bal _ (.cells #[] 3))) hgrow5 (fun x hx=>by have e:wo.heap.size+1=x:=Option.some.inj hx;omega);have hs5:=hb5.size;clear hnil5))
      obtain⟨q1,q2⟩:=sk_end hjl hO6;have hb6:=gBs (hb5.alloc hb5.size _) hgr6 (fun x hx=>by have e:g5=x:=Option.some.inj hx;have:=(hown5.lt g5 rfl).1;omega);have q3:ck C n I (k+1)=(L.take j ++ [1],0):=by rw [HST.out,HT.out];rfl
      go_roundw
      case rel=>exact⟨k+1,g6,cap6,L.take j ++ [1],by omega,by go_num,by rw [q1],q3,q2,hb6⟩
      case measure=>simp [intOf];omega
  ·
   obtain rfl:j=cap:=by omega
   go_wp2_with (go_at_call 66;refine(sArity (o) _).mono ?_;rintro e w3 ⟨rfl,rfl⟩)
   go_loopw [12,15,36] (fun b _ i wx=>∃ q:Nat,q<=L.length - j/\i=.int .i64 q/\b=.bool (((L.drop j).take q).all (fun x=>x == 1))/\wx=(wo.alloc (.cells #[.int .i64 o,.int .i64 mm,.string s] 108))) (fun _ _ i _=>(L.length - j) - (intOf i).toNat)
   case atStart=>exact⟨0,Nat.zero_le _,rfl,rfl,rfl⟩
   case round=>
    obtain⟨q,hq,rfl,rfl,rfl⟩:=hrel;by_cases hql:q<L.length - j
    ·
     exfalso
     omega
    ·
     have HAL:Hid (((L.drop j).take q).all (fun x=>x == 1)=(L.drop j).all (fun x=>x == 1)):=by show _=_;rw [List.take_of_length_le (by simp;omega)]
     obtain⟨bb,hbb⟩:∃ bb,(L.drop j).all (fun x=>x == 1)=bb:=⟨_,rfl⟩;rw [HAL.out];rw [hbb] at HTY ⊢;clear hbb HAL;have iq:¬(q:Int)<((L.length - j:Nat):Int):=by omega
     cases bb
     ·
      have HT:Hid (tyI C n ⟨o,mm,s⟩ (L.drop j)=(0,4)):=by show _=_;rw [HTY.out];rfl
      go_wp2;have hE:=HFL.out 4 (by decide) (by rw [HT.out]);refine bodyPost_ret (results_tmp2 rfl _ _ _) rfl ⟨?_,hbW⟩;rw [hE];rfl
     ·
      have HT:Hid (tyI C n ⟨o,mm,s⟩ (L.drop j)=(1,0)):=by show _=_;rw [HTY.out];rfl
      go_wp2_with (first | (at_builtin;have _h:=hb5;refine wpList_append_lies _ rfl _ _ _ rfl w.heap.size 3 i0 (.int .i64 0) 1 8 Tryz.underlying148 HI.out hz0 hz1 hz2 rfl (by omega) (.slice (some ⟨g5,0,none⟩) j cap5) j (ints (L.take j)) rfl (hown5.alloc _) ⟨w5.heap.size,0,none⟩ 1 1 [.int .i64 (1)] rfl rfl (World.news_of_block (heap_alloc_new w5 _)) (ones _ rfl) (by omega) (by unfold maxLen;have:=HLE.out;omega) (by have:=HLE.out;omega) (by simp;omega) _ rfl ?_;intro g6 cap6 w6 hO6 hgr6 hat6 hlt6) | (at_builtin;refine wpList_append_own _ rfl _ _ 148 rfl w.heap.size 3 i0 (.int .i64 0) 1 8 Tryz.underlying148 HI.out hz0 hz1 hz2 rfl (by omega) (.slice (some ⟨wo.heap.size+1,0,none⟩) 0 0) 0 [] rfl HOE.out ⟨g,0,none⟩ j j (ints (L.take j)) rfl (by rw [ints_len,List.length_take];omega) (Sk.news (own_below hOW (bal _ _))) (ints_one _) (by unfold maxLen;have:=HLE.out;omega) (by have:=HLE.out;omega) (by simp;omega) ?_;intro v1 w5 hown5 hgrow5 hnil5;obtain⟨g5,cap5,rfl⟩:=own_some hown5 (fun e=>by have:=hnil5.1 e;simp at this);rw [Nat.zero_add,List.nil_append] at hown5;have hb5:=gBs (bstep hbW (bal _ (.cells #[] 3))) hgrow5 (fun x hx=>by have e:wo.heap.size+1=x:=Option.some.inj hx;omega);have hs5:=hb5.size;clear hnil5))
      obtain⟨q1,q2⟩:=sk_end hjl hO6;have hb6:=gBs (hb5.alloc hb5.size _) hgr6 (fun x hx=>by have e:g5=x:=Option.some.inj hx;have:=(hown5.lt g5 rfl).1;omega);have q3:ck C n I (k+1)=(L.take j ++ [1],0):=by rw [HST.out,HT.out];rfl
      go_roundw
      case rel=>exact⟨k+1,g6,cap6,L.take j ++ [1],by omega,by go_num,by rw [q1],q3,q2,hb6⟩
      case measure=>simp [intOf];omega
end Go.Proofs.YtgeiamgeclbiaaaGreatDoor
