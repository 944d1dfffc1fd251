import Derived.Test.YtgeiamgeclbiaaaGreatDoorUt
import Derived.Test.YtgeiamgeclbiaaaGreatDoorTj
import Derived.Test.YtgeiamgeclbiaaaGreatDoorTl
namespace Go.Proofs.YtgeiamgeclbiaaaGreatDoor
open Go.RowKit Go.Maps Go.WideMaps
set_option maxRecDepth 20000
set_option maxHeartbeats 4000000
theorem less_irr(x:List UInt8):Op.bytesLess x x=false:=by
 induction x with
 | nil=>rfl
 | cons a x ih=>simp [Op.bytesLess,ih]
theorem less_trans(x y z:List UInt8)(h1:Op.bytesLess x y=true)(h2:Op.bytesLess y z=true):Op.bytesLess x z=true:=by
 induction x generalizing y z with
 | nil=>
  cases z with
  | nil=>cases y <;> simp [Op.bytesLess] at h2
  | cons c z=>rfl
 | cons a x ih=>
  cases y with
  | nil=>simp [Op.bytesLess] at h1
  | cons b y=>
   cases z with
   | nil=>simp [Op.bytesLess] at h2
   | cons c z=>
    simp only [Op.bytesLess,Bool.or_eq_true,decide_eq_true_eq,Bool.and_eq_true,beq_iff_eq] at h1 h2 ⊢
    rcases h1 with h1 | ⟨rfl,h1⟩
    ·
     rcases h2 with h2 | ⟨rfl,h2⟩
     · exact Or.inl (UInt8.lt_trans h1 h2)
     · exact Or.inl h1
    ·
     rcases h2 with h2 | ⟨rfl,h2⟩
     · exact Or.inl h2
     · exact Or.inr ⟨rfl,ih y z h1 h2⟩
def cmpS(a b:ByteArray):Int:=if Op.bytesLess a.toList b.toList then -1 else if a=b then 0 else 1
theorem iCompare(a b:ByteArray)(w:World):Calls Tryz.prog 129 #[.string a,.string b] w fun e w'=>e=.returned (.int .i64 (cmpS a b))/\w'=w:=by
 have hq:=eqS a b;rcases hl:Op.bytesLess a.toList b.toList
 ·
  by_cases he:a=b
  ·
   have hq1:(a.toList == b.toList)=true:=by rw [hq];simp [he]
   have hc:Hid (cmpS a b=0):=by show _=_;unfold cmpS;rw [hl,if_neg (by simp),if_pos he]
   clear hq he;go_enter Tryz.func129,Tryz.ntmps129
   go_wp2_with (go_at_call 153;refine(isNaN _ _).mono ?_;rintro e w1 ⟨rfl,rfl⟩)
   go_ret
   exact⟨by rw [hc.out];rfl,rfl⟩
  ·
   have hq1:(a.toList == b.toList)=false:=by rw [hq];simp [he]
   have hc:Hid (cmpS a b=1):=by show _=_;unfold cmpS;rw [hl,if_neg (by simp),if_neg he]
   clear hq he;go_enter Tryz.func129,Tryz.ntmps129
   go_wp2_with (go_at_call 153;refine(isNaN _ _).mono ?_;rintro e w1 ⟨rfl,rfl⟩)
   go_ret
   exact⟨by rw [hc.out];rfl,rfl⟩
 ·
  have hc:Hid (cmpS a b=-1):=by show _=_;unfold cmpS;rw [hl,if_pos rfl]
  clear hq;go_enter Tryz.func129,Tryz.ntmps129
  go_wp2_with (go_at_call 153;refine(isNaN _ _).mono ?_;rintro e w1 ⟨rfl,rfl⟩)
  go_ret
  exact⟨by rw [hc.out];rfl,rfl⟩
theorem iFind1(s:ByteArray)(ac:Option Addr)(n cc:Nat)(ar:Option Addr)(r cr:Nat)(nm:ByteArray)(w:World):Calls Tryz.prog 128 #[.agg #[.string s,.slice ac n cc,.slice ar r cr],.string nm] w fun e w'=>e=.returned (.int .i64 (cmpS s nm))/\Below w.heap.size w w':=by
 go_enter Tryz.func128,Tryz.ntmps128
 go_wp2_with (go_at_call 129;refine(iCompare _ _ _).mono ?_;rintro e w1 ⟨rfl,rfl⟩)
 go_ret
 exact⟨rfl,bal _ _⟩
def LoB(F:Nat->Td)(n:Nat)(nm:ByteArray)(i:Nat):Prop:=i<=n/\(∀ k,k<i->Op.bytesLess (F k).s.toList nm.toList=true)/\(∀ k,i<=k->k<n->Op.bytesLess (F k).s.toList nm.toList=false)
def hitB(F:Nat->Td)(n:Nat)(nm:ByteArray)(i:Nat):Bool:=decide (i<n) && decide ((F i).s=nm)
theorem iBsearch(a:Option Addr)(n c:Nat)(F:Nat->Td)(nm:ByteArray)(w:World)(h:TL w a n F)(hn:n<=1048576)(hm:∀ j k,j<k->k<n->Op.bytesLess (F k).s.toList nm.toList=true->Op.bytesLess (F j).s.toList nm.toList=true) :
 Calls Tryz.prog 127 #[.slice a n c,.string nm,.func (.func 128) #[] #[]] w fun e w'=>∃ i:Nat,e=.returned (.tuple #[.int .i64 i,.bool (hitB F n nm i)])/\LoB F n nm i/\Below w.heap.size w w':=by
 have hb0:=Below.refl w.heap.size w;go_enter Tryz.func127,Tryz.ntmps127
 go_wp2;go_loopw [9,10,11] (fun i j _ wr=>∃ p q:Nat,p<=q/\q<=n/\i=.int .i64 p/\j=.int .i64 q/\(∀ k,k<p->Op.bytesLess (F k).s.toList nm.toList=true)/\(∀ k,q<=k->k<n->Op.bytesLess (F k).s.toList nm.toList=false)/\Below w.heap.size w wr) (fun i j _ _=>(intOf j - intOf i).toNat)
 case atStart=>exact⟨0,n,by omega,by omega,rfl,rfl,fun k hk=>by omega,fun k h1 h2=>by omega,hb0⟩
 case round=>
  obtain⟨p,q,hpq,hqn,rfl,rfl,hlo,hhi,hb⟩:=hrel;by_cases hlt:p<q
  ·
   have hlt':(p:Int)<q:=by omega
   obtain⟨m,hmm⟩:∃ m:Nat,m=(p+q) / 2:=⟨_,rfl⟩;have m1:((p:Int)+q) / 2=(m:Int):=by omega
   have m2:p<=m:=by omega
   have m3:m<q:=by omega
   have m4:(m:Int)<n:=by omega
   have m5:(0:Int)<=(m:Int):=by omega
   obtain⟨b,off,ac,cc,ar,cr_,rfl,c0,c1,c2,-⟩:=h.later hb m (by omega);clear hmm;rcases hl:Op.bytesLess (F m).s.toList nm.toList
   ·
    have hc:¬cmpS (F m).s nm<0:=by unfold cmpS;rw [hl,if_neg (by simp)];split <;> omega
    obtain⟨cr,hcr⟩:∃ cr,cmpS (F m).s nm=cr:=⟨_,rfl⟩;rw [hcr] at hc;go_wp2_with (go_at_call 128;refine(iFind1 _ _ _ _ _ _ _ _ _).mono ?_;rw [hcr];rintro e w1 ⟨rfl,hb1⟩)
    refine⟨⟨p,m,m2,by omega,rfl,rfl,hlo,fun k h1 h2=>?_,hb.trans (hb1.mono hb.size)⟩,by simp only [intOf];omega⟩;rcases hk:Op.bytesLess (F k).s.toList nm.toList
    · rfl
    ·
     rcases Nat.lt_or_ge m k with h3 | h3
     · have:=hm m k h3 h2 hk;rw [hl] at this;exact this.symm
     ·
      obtain rfl:k=m:=by omega
      rw [hl] at hk;exact hk.symm
   ·
    have hc:cmpS (F m).s nm<0:=by unfold cmpS;rw [hl,if_pos rfl];omega
    obtain⟨cr,hcr⟩:∃ cr,cmpS (F m).s nm=cr:=⟨_,rfl⟩;rw [hcr] at hc;go_wp2_with (go_at_call 128;refine(iFind1 _ _ _ _ _ _ _ _ _).mono ?_;rw [hcr];rintro e w1 ⟨rfl,hb1⟩)
    refine⟨⟨m+1,q,by omega,by omega,by rw [Int.natCast_add];rfl,rfl,fun k hk=>?_,hhi,hb.trans (hb1.mono hb.size)⟩,by simp only [intOf];omega⟩;rcases Nat.lt_or_ge k m with h3 | h3
    · exact hm k m h3 (by omega) hl
    ·
     obtain rfl:k=m:=by omega
     exact hl
  ·
   obtain rfl:p=q:=by omega
   by_cases hpn:p<n
   ·
    have hpn':(p:Int)<n:=by omega
    obtain⟨b,off,ac,cc,ar,cr_,rfl,c0,c1,c2,-⟩:=h.later hb p (by omega);obtain⟨cr,hcr⟩:∃ cr,cmpS (F p).s nm=cr:=⟨_,rfl⟩;go_wp2_with (go_at_call 128;refine(iFind1 _ _ _ _ _ _ _ _ _).mono ?_;rw [hcr];rintro e w1 ⟨rfl,hb1⟩)
    go_ret2
    refine⟨p,?_,⟨by omega,hlo,hhi⟩,hb.trans (hb1.mono hb.size)⟩;have hh:hitB F n nm p=(cr == 0):=by
     rw [←hcr];unfold hitB cmpS;rw [hhi p (Nat.le_refl _) hpn,if_neg (by simp)];by_cases he:(F p).s=nm
     · rw [if_pos he];simp [hpn,he]
     · rw [if_neg he];simp [he]
    rw [hh];rfl
   ·
    have hpn':¬(p:Int)<n:=by omega
    go_wp2;go_ret2
    refine⟨p,?_,⟨by omega,hlo,hhi⟩,hb⟩;have hh:hitB F n nm p=false:=by unfold hitB;simp [hpn]
    rw [hh];rfl
theorem okDb_lt{n:Nat}{T:Nat->Td}(h:okDb n T=true):∀ k j,k<n->j<k->Op.bytesLess (T j).s.toList (T k).s.toList=true:=by
 unfold okDb at h;simp only [Bool.and_eq_true] at h
 intro k;induction k with
 | zero=>intro j _ hj;omega
 | succ k ih=>
  intro j hk hj;have h1:=allN_at h.2 hk;unfold ltD at h1;simp only [Bool.or_eq_true,decide_eq_true_eq] at h1
  have h2:Op.bytesLess (T k).s.toList (T (k+1)).s.toList=true:=by
   rcases h1 with h1 | h1
   · omega
   · exact h1
  by_cases e:j=k
  · subst e;exact h2
  · exact less_trans _ _ _ (ih j (by omega) (by omega)) h2
theorem tab_hit{n i:Nat}{T:Nat->Td}{nm:ByteArray}(h:okDb n T=true)(hi:i<n)(he:(T i).s=nm):tabI T nm n=some i:=by
 rcases ht:tabI T nm n with _ | j
 · exact absurd he (tabI_none ht i hi)
 ·
  obtain⟨hj,hs⟩:=tabI_lt ht;by_cases e:i=j
  · rw [e]
  ·
   exfalso
   rcases Nat.lt_or_gt_of_ne e with h1 | h1
   · have:=okDb_lt h j i hj h1;rw [hs,he,less_irr] at this;cases this
   · have:=okDb_lt h i j hi h1;rw [hs,he,less_irr] at this;cases this
theorem iFind(a:Option Addr)(n c:Nat)(T:Nat->Td)(nm:ByteArray)(w:World)(h:TL w a n T)(hn:n<=1048576)(hok:okDb n T=true) :
 Calls Tryz.prog 87 #[.agg #[.slice a n c],.string nm] w fun e w'=>∃ i:Nat,e=.returned (.tuple #[.int .i64 i,.bool (tabI T nm n).isSome])/\LoB T n nm i/\(∀ j,tabI T nm n=some j->i=j)/\Below w.heap.size w w':=by
 have hm:∀ j k,j<k->k<n->Op.bytesLess (T k).s.toList nm.toList=true->Op.bytesLess (T j).s.toList nm.toList=true:=fun j k hjk hk hl=>less_trans _ _ _ (okDb_lt hok k j hk hjk) hl;have HB:=iBsearch a n c T nm (w.alloc (.cells #[.slice a n c] 38)) (h.later (bal _ _)) hn hm;have HOK:Hid (okDb n T=true):=hok;clear hok hm;go_enter Tryz.func87,Tryz.ntmps87
 go_wp2_with (go_at_call 127;refine HB.mono ?_;rintro e w1 ⟨i,rfl,hlo,hb1⟩)
 refine bodyPost_ret (results_tmp2 rfl _ _ _) rfl ?_;have hhit:hitB T n nm i=(tabI T nm n).isSome:=by
  unfold hitB;by_cases h1:i<n
  ·
   by_cases h2:(T i).s=nm
   · rw [tab_hit HOK.out h1 h2];simp [h1,h2]
   ·
    rcases ht:tabI T nm n with _ | j
    · simp [h2]
    ·
     exfalso
     obtain⟨hj,hs⟩:=tabI_lt ht;have hij:i<j:=by
      rcases Nat.lt_or_ge i j with h3 | h3
      · exact h3
      ·
       rcases Nat.lt_or_ge j i with h4 | h4
       · have:=hlo.2.1 j h4;rw [hs,less_irr] at this;cases this
       ·
        obtain rfl:i=j:=by omega
        exact absurd hs h2
     have:=hlo.2.2 i (Nat.le_refl _) h1;have h5:=okDb_lt HOK.out j i hj hij;rw [hs,this] at h5;cases h5
  ·
   rcases ht:tabI T nm n with _ | j
   · simp [h1]
   ·
    exfalso
    obtain⟨hj,hs⟩:=tabI_lt ht;have:=hlo.2.1 j (by omega);rw [hs,less_irr] at this;cases this
 refine⟨i,by rw [←hhit];rfl,hlo,fun j hj=>?_,bj (Below.refl _ _) hb1⟩;obtain⟨hjn,hs⟩:=tabI_lt hj;rw [hj] at hhit;unfold hitB at hhit;simp only [Option.isSome,Bool.and_eq_true,decide_eq_true_eq] at hhit
 have:=tab_hit HOK.out hhit.1 hhit.2;rw [hj] at this;exact(Option.some.inj this).symm
set_option maxRecDepth 20000
set_option maxHeartbeats 4000000
def PlAt(w:World)(b n:Nat)(C:Nat->Clm):Prop:=w.ownsMap Tryz.prog 9 (plainElem (H:=Unit) Tryz.prog 3) b n (pl C n)
theorem PlAt.later{w w':World}{b n:Nat}{C:Nat->Clm}(h:PlAt w b n C)(hb:Below w.heap.size w w'):PlAt w' b n C:=by
 have hl:=h.lt;obtain⟨es,clock,h1,F,hs,hD⟩:=h;exact⟨es,clock,(hb.block _ hl).trans h1,F,hs,hD⟩
theorem has_colI(C:Nat->Clm)(s:ByteArray):∀ n,hasCol C s n=(colI C s n).isSome
 | 0=>rfl
 | n+1=>by
  rw [hasCol,colI,has_colI C s n];rcases colI C s n with _ | j
  ·
   simp only [Option.isSome,Bool.false_or]
   rcases (C n).s.toList == s.toList <;> rfl
  · rfl
theorem pl_at{C:Nat->Clm}{s:ByteArray}:∀ {n j:Nat},(∀ k,k<n->hasCol C (C k).s k=false)->colI C s n=some j->∀ z,(pl C n).atKey (litS s) z=.lit (.int .i64 j)
 | 0,j,_,h,z=>by cases h
 | n+1,j,hd,h,z=>by
  rw [colI] at h;show ((pl C n).put (litS (C n).s) (.lit (.int .i64 n))).atKey (litS s) z=_
  by_cases e:(C n).s=s
  ·
   rcases hc:colI C s n with _ | i
   ·
    rw [hc] at h;simp only [e,eqS_same,if_true] at h
    cases h
    rw [e,atKey_put_same (pl_tidy C n).isMap (show WideAt.IsKeyLit (litS s) from trivial)]
   · have:=hd n (by omega);rw [e,has_colI,hc] at this;cases this
  ·
   rw [atKey_put_other (fun h=>e (litS_inj h).symm)];rcases hc:colI C s n with _ | i
   ·
    rw [hc] at h;have e2:((C n).s.toList == s.toList)=false:=by rw [eqS];simp [e]
    simp only [e2] at h
    cases h
   ·
    rw [hc] at h;cases h
    exact pl_at (fun k hk=>hd k (by omega)) hc z
def NI(w:World)(a:Option Addr)(L:List Int):Prop:=∀ k,k<L.length->∃ b off,a=some ⟨b,off,none⟩/\w.cell? ⟨b,off+k,none⟩=some (.int .i64 (L.getD k 0))
theorem NI.later{w w':World}{a:Option Addr}{L:List Int}(h:NI w a L)(hb:Below w.heap.size w w'):NI w' a L:=fun k hk=>by
 obtain⟨b,off,e,c⟩:=h k hk;exact⟨b,off,e,keepB hb c⟩
def rtI(L:List Int)(x r:Int):Int×Int:=if L.all (fun y=>y == x)=true then (r,0) else (0,4)
theorem iResT(a:Option Addr)(c:Nat)(L:List Int)(x r:Int)(w:World)(h:NI w a L)(hl:L.length<=100) :
 Calls Tryz.prog 185 #[.slice a L.length c,.int .i64 x,.int .i64 r] w fun e w'=>e=.returned (.tuple #[.int .i64 (rtI L x r).1,.int .i64 (rtI L x r).2])/\Below w.heap.size w w':=by
 go_enter Tryz.func185,Tryz.ntmps185
 go_wp2;go_loopw [9,12] (fun _ i wr=>∃ k:Nat,k<=L.length/\i=.int .i64 k/\(L.take k).all (fun y=>y == x)=true/\Below w.heap.size w wr) (fun _ i _=>L.length - (intOf i).toNat)
 case atStart=>exact⟨0,Nat.zero_le _,rfl,rfl,Below.refl _ _⟩
 case round=>
  obtain⟨k,hk,rfl,hall,hb⟩:=hrel;have HAL:Hid ((L.take k).all (fun y=>y == x)=true):=hall;clear hall;by_cases hlt:k<L.length
  ·
   obtain⟨b,off,rfl,c0⟩:=h.later hb k hlt;have hkl:(k:Int)<L.length:=by omega
   have HN:Hid ((L.take (k+1)).all (fun y=>y == x)=(L.getD k 0 == x)):=by
    show _=_
    rw [List.take_add_one,List.all_append,HAL.out];simp [hlt]
   have HF:Hid (L.getD k 0≠x->rtI L x r=(0,4)):=fun hne=>by
    unfold rtI;rw [if_neg];intro hh;rw [List.all_eq_true] at hh;have e:L.getD k 0=L[k]:=by simp [hlt]
    have:=hh (L.getD k 0) (by rw [e];exact List.getElem_mem hlt);exact hne (eq_of_beq this)
   obtain⟨y,hy⟩:∃ y,L.getD k 0=y:=⟨_,rfl⟩;rw [hy] at c0 HN HF;clear hy;by_cases e:y=x
   ·
    subst e;go_wp2;go_roundw
    case rel=>exact⟨k+1,by omega,by go_num,by rw [HN.out];simp,hb⟩
    case measure=>simp [intOf];omega
   ·
    have n1:(y != x)=true:=by simpa using e
    have HF2:Hid (rtI L x r=(0,4)):=HF.out e;clear e;go_wp2;refine bodyPost_ret (results_tmp2 rfl _ _ _) rfl ⟨by rw [HF2.out];rfl,hb⟩
  ·
   have hkl:¬(k:Int)<L.length:=by omega
   have HE:Hid (rtI L x r=(r,0)):=by
    show _=_
    have:=HAL.out;rw [List.take_of_length_le (by omega)] at this;unfold rtI;rw [if_pos this]
   have hkk:k=L.length:=by omega
   clear hkk;go_wp2;refine bodyPost_ret (results_tmp2 rfl _ _ _) rfl ⟨by rw [HE.out];rfl,hb⟩
set_option maxRecDepth 20000
set_option maxHeartbeats 8000000
theorem zeroI(w:World):(zeroValue 3).run Tryz.prog w=.ok (.int .i64 0) w:=by kernel_rfl
theorem len0{L:List Int}(h:L.length=0):L=[]:=List.length_eq_zero_iff.1 h
theorem len1{L:List Int}(h:L.length=1):∃ x,L=[x]:=List.length_eq_one_iff.1 h
theorem len2_{L:List Int}(h:L.length=2):∃ x y,L=[x,y]:=by
 match L,h with
 | [x,y],_=>exact⟨x,y,rfl⟩
theorem ty_eq{C:Nat->Clm}{n:Nat}{o mm:Int}{s:ByteArray}{L:List Int}(hl:L.length=2)(ho:o=7∨o=8):tyI C n ⟨o,mm,s⟩ L=rtI L (L.getD 0 0) 1:=by
 obtain⟨x,y,rfl⟩:=len2_ hl;unfold tyI rtI;rcases ho with rfl | rfl <;> simp <;> by_cases h:x=y <;> simp [h] <;> (intro h2;exact absurd h2.symm h)
theorem ty_12{C:Nat->Clm}{n:Nat}{mm:Int}{s:ByteArray}{L:List Int}(hl:L.length=2):tyI C n ⟨12,mm,s⟩ L=rtI L 2 2:=by
 obtain⟨x,y,rfl⟩:=len2_ hl;unfold tyI rtI;simp
theorem ty_13{C:Nat->Clm}{n:Nat}{mm:Int}{s:ByteArray}{L:List Int}(hl:L.length=1):tyI C n ⟨13,mm,s⟩ L=rtI L 2 1:=by
 obtain⟨x,rfl⟩:=len1 hl;unfold tyI rtI;simp
theorem ty_def{C:Nat->Clm}{n:Nat}{o mm:Int}{s:ByteArray}{L:List Int}(h2:¬o=2)(h3:¬o=3)(h7:¬o=7)(h8:¬o=8)(h12:¬o=12)(h13:¬o=13):tyI C n ⟨o,mm,s⟩ L=rtI L 1 1:=by
 unfold tyI rtI;simp only
 rw [if_neg h2,if_neg h3,if_neg (by omega),if_neg h12,if_neg h13]
theorem iTypeOf(ac:Option Addr)(n cc:Nat)(C:Nat->Clm)(mb:Nat)(o mm:Int)(s:ByteArray)(a:Option Addr)(c:Nat)(L:List Int)(w:World)(hC:CL w ac n C)(hP:PlAt w mb n C)(hd:∀ k,k<n->hasCol C (C k).s k=false)(hN:NI w a L)(hlen:L.length=arN o)(ho:1<=o/\o<=13)(hs:s.size<=1048576) :
 Calls Tryz.prog 164 #[.agg #[.slice ac n cc,.map (some mb)],.agg #[.int .i64 o,.int .i64 mm,.string s],.slice a L.length c] w fun e w'=>e=.returned (.tuple #[.int .i64 (tyI C n ⟨o,mm,s⟩ L).1,.int .i64 (tyI C n ⟨o,mm,s⟩ L).2])/\Below w.heap.size w w':=by
 have hb0:Below w.heap.size w ((w.alloc (.cells #[.slice ac n cc,.map (some mb)] 79)).alloc (.cells #[.int .i64 o,.int .i64 mm,.string s] 108)):=bstep (bal _ _) (bal _ _);have hL100:L.length<=100:=by
  have:=arity_le o;have:=arN_eq o;omega
 have HLN:Hid (L.length=arN o):=hlen;clear hlen;by_cases e1:o=1
 ·
  subst e1;have HT:Hid (tyI C n ⟨1,mm,s⟩ L=(1,0)):=by
   show _=_
   have h0:L=[]:=len0 HLN.out;subst h0;rfl
  go_enter Tryz.func164,Tryz.ntmps164
  go_wp2;refine bodyPost_ret (results_tmp2 rfl _ _ _) rfl ⟨by rw [HT.out];rfl,hb0⟩
 by_cases e2:o=2
 ·
  subst e2;have HT:Hid (tyI C n ⟨2,mm,s⟩ L=(2,0)):=by show _=_;simp [tyI]
  go_enter Tryz.func164,Tryz.ntmps164
  go_wp2;refine bodyPost_ret (results_tmp2 rfl _ _ _) rfl ⟨by rw [HT.out];rfl,hb0⟩
 by_cases e3:o=3
 ·
  subst e3;have hkey:keyOf Tryz.prog 9 (.string s)=some (litS s):=keyOf_string_mk Tryz.underlying9 (by unfold maxLen;omega);have hP3:=hP.later hb0;have hh:=has_pl C s n;rw [has_colI] at hh;rcases hcol:colI C s n with _ | q
  ·
   have HT:Hid (tyI C n ⟨3,mm,s⟩ L=(0,3)):=by show _=_;simp [tyI,hcol]
   have hh2:Maps.has (pl C n) (litS s)=false:=by rw [hh,hcol];rfl
   clear hcol hh;go_enter Tryz.func164,Tryz.ntmps164
   go_wp2_with (at_lookup;refine wpList_lookup_own_ok_int _ rfl _ _ 77 rfl 9 3 .i64 lawS Tryz.underlying77 Tryz.underlying3 (zeroI _) mb n (pl C n) rfl hP3 _ _ rfl hkey ?_;intro cv hat hwc;rw [hh2];clear hat hwc)
   refine bodyPost_ret (results_tmp2 rfl _ _ _) rfl ⟨by rw [HT.out];rfl,hb0⟩
  ·
   have HT:Hid (tyI C n ⟨3,mm,s⟩ L=((C q).t,0)):=by show _=_;simp [tyI,hcol]
   have hh2:Maps.has (pl C n) (litS s)=true:=by rw [hh,hcol];rfl
   have hq:=(colI_lt hcol).1;have HAT:Hid ((pl C n).atKey (litS s) (.lit (.int .i64 0))=.lit (.int .i64 q)):=pl_at hd hcol _;clear hcol hh;have hq0:(0:Int)<=q:=by omega
   have hqn:(q:Int)<n:=by omega
   obtain⟨b3,off3,rfl,t0_,t1_,-⟩:=hC.later hb0 q hq;obtain⟨tq,htq⟩:∃ t,(C q).t=t:=⟨_,rfl⟩;rw [htq] at t1_ HT;clear htq;go_enter Tryz.func164,Tryz.ntmps164
   go_wp2_with (at_lookup;refine wpList_lookup_own_ok_int _ rfl _ _ 77 rfl 9 3 .i64 lawS Tryz.underlying77 Tryz.underlying3 (zeroI _) mb n (pl C n) rfl hP3 _ _ rfl hkey ?_;intro cv hat hwc;rw [hh2];rw [HAT.out] at hat;obtain rfl:(q:Int)=cv:=(by simpa using hat);clear hat hwc)
   refine bodyPost_ret (results_tmp2 rfl _ _ _) rfl ⟨by rw [HT.out];rfl,hb0⟩
 by_cases e7:o=7
 ·
  subst e7;have hl2:L.length=2:=HLN.out;obtain⟨b1,off1,rfl,d0_⟩:=hN.later hb0 0 (by omega);rw [Nat.add_zero] at d0_;have hl0:(0:Int)<L.length:=by omega
  obtain⟨x,hx⟩:∃ x,L.getD 0 0=x:=⟨_,rfl⟩;rw [hx] at d0_;obtain⟨r1,r2,hr⟩:∃ r1 r2,rtI L (x) 1=(r1,r2):=⟨_,_,rfl⟩;have HT:Hid (tyI C n ⟨7,mm,s⟩ L=(r1,r2)):=by show _=_;rw [ty_eq hl2 (by simp),hx];exact hr
  have HR:=fun W (hW:Below w.heap.size w W)=>iResT _ c L (x) 1 W (hN.later hW) hL100;simp only [hr] at HR
  have HRH:Hid (∀ W,Below w.heap.size w W->Calls Tryz.prog 185 #[.slice (some ⟨b1,off1,none⟩) L.length c,.int .i64 (x),.int .i64 1] W (fun e w'=>e=.returned (.tuple #[.int .i64 r1,.int .i64 r2])/\Below W.heap.size W w')):=HR;clear hr HR;clear hx hl2;go_enter Tryz.func164,Tryz.ntmps164
  go_wp2_with (go_at_call 185;refine(HRH.out _ hb0).mono ?_;rintro e w1 ⟨rfl,hb1⟩)
  refine bodyPost_ret (results_tmp2 rfl _ _ _) rfl ⟨by rw [HT.out];rfl,bstep hb0 hb1⟩
 by_cases e8:o=8
 ·
  subst e8;have hl2:L.length=2:=HLN.out;obtain⟨b1,off1,rfl,d0_⟩:=hN.later hb0 0 (by omega);rw [Nat.add_zero] at d0_;have hl0:(0:Int)<L.length:=by omega
  obtain⟨x,hx⟩:∃ x,L.getD 0 0=x:=⟨_,rfl⟩;rw [hx] at d0_;obtain⟨r1,r2,hr⟩:∃ r1 r2,rtI L (x) 1=(r1,r2):=⟨_,_,rfl⟩;have HT:Hid (tyI C n ⟨8,mm,s⟩ L=(r1,r2)):=by show _=_;rw [ty_eq hl2 (by simp),hx];exact hr
  have HR:=fun W (hW:Below w.heap.size w W)=>iResT _ c L (x) 1 W (hN.later hW) hL100;simp only [hr] at HR
  have HRH:Hid (∀ W,Below w.heap.size w W->Calls Tryz.prog 185 #[.slice (some ⟨b1,off1,none⟩) L.length c,.int .i64 (x),.int .i64 1] W (fun e w'=>e=.returned (.tuple #[.int .i64 r1,.int .i64 r2])/\Below W.heap.size W w')):=HR;clear hr HR;clear hx hl2;go_enter Tryz.func164,Tryz.ntmps164
  go_wp2_with (go_at_call 185;refine(HRH.out _ hb0).mono ?_;rintro e w1 ⟨rfl,hb1⟩)
  refine bodyPost_ret (results_tmp2 rfl _ _ _) rfl ⟨by rw [HT.out];rfl,bstep hb0 hb1⟩
 by_cases e12:o=12
 ·
  subst e12;have hl2:L.length=2:=HLN.out;obtain⟨r1,r2,hr⟩:∃ r1 r2,rtI L (2) 2=(r1,r2):=⟨_,_,rfl⟩;have HT:Hid (tyI C n ⟨12,mm,s⟩ L=(r1,r2)):=by show _=_;rw [ty_12 hl2];exact hr
  have HR:=fun W (hW:Below w.heap.size w W)=>iResT a c L (2) 2 W (hN.later hW) hL100;simp only [hr] at HR
  have HRH:Hid (∀ W,Below w.heap.size w W->Calls Tryz.prog 185 #[.slice a L.length c,.int .i64 (2),.int .i64 2] W (fun e w'=>e=.returned (.tuple #[.int .i64 r1,.int .i64 r2])/\Below W.heap.size W w')):=HR;clear hr HR;clear hl2;go_enter Tryz.func164,Tryz.ntmps164
  go_wp2_with (go_at_call 185;refine(HRH.out _ hb0).mono ?_;rintro e w1 ⟨rfl,hb1⟩)
  refine bodyPost_ret (results_tmp2 rfl _ _ _) rfl ⟨by rw [HT.out];rfl,bstep hb0 hb1⟩
 by_cases e13:o=13
 ·
  subst e13;have hl2:L.length=1:=HLN.out;obtain⟨r1,r2,hr⟩:∃ r1 r2,rtI L (2) 1=(r1,r2):=⟨_,_,rfl⟩;have HT:Hid (tyI C n ⟨13,mm,s⟩ L=(r1,r2)):=by show _=_;rw [ty_13 hl2];exact hr
  have HR:=fun W (hW:Below w.heap.size w W)=>iResT a c L (2) 1 W (hN.later hW) hL100;simp only [hr] at HR
  have HRH:Hid (∀ W,Below w.heap.size w W->Calls Tryz.prog 185 #[.slice a L.length c,.int .i64 (2),.int .i64 1] W (fun e w'=>e=.returned (.tuple #[.int .i64 r1,.int .i64 r2])/\Below W.heap.size W w')):=HR;clear hr HR;clear hl2;go_enter Tryz.func164,Tryz.ntmps164
  go_wp2_with (go_at_call 185;refine(HRH.out _ hb0).mono ?_;rintro e w1 ⟨rfl,hb1⟩)
  refine bodyPost_ret (results_tmp2 rfl _ _ _) rfl ⟨by rw [HT.out];rfl,bstep hb0 hb1⟩
 have n1:(o == 1)=false:=by simpa using e1
 have n2:(o == 2)=false:=by simpa using e2
 have n3:(o == 3)=false:=by simpa using e3
 have n7:(o == 7)=false:=by simpa using e7
 have n8:(o == 8)=false:=by simpa using e8
 have n12:(o == 12)=false:=by simpa using e12
 have n13:(o == 13)=false:=by simpa using e13
 obtain⟨r1,r2,hr⟩:∃ r1 r2,rtI L (1) 1=(r1,r2):=⟨_,_,rfl⟩;have HT:Hid (tyI C n ⟨o,mm,s⟩ L=(r1,r2)):=by show _=_;rw [ty_def e2 e3 e7 e8 e12 e13];exact hr
 have HR:=fun W (hW:Below w.heap.size w W)=>iResT a c L (1) 1 W (hN.later hW) hL100;simp only [hr] at HR
 have HRH:Hid (∀ W,Below w.heap.size w W->Calls Tryz.prog 185 #[.slice a L.length c,.int .i64 (1),.int .i64 1] W (fun e w'=>e=.returned (.tuple #[.int .i64 r1,.int .i64 r2])/\Below W.heap.size W w')):=HR;clear hr HR;clear e1 e2 e3 e7 e8 e12 e13;go_enter Tryz.func164,Tryz.ntmps164
 go_wp2_with (go_at_call 185;refine(HRH.out _ hb0).mono ?_;rintro e w1 ⟨rfl,hb1⟩)
 refine bodyPost_ret (results_tmp2 rfl _ _ _) rfl ⟨by rw [HT.out];rfl,bstep hb0 hb1⟩
end Go.Proofs.YtgeiamgeclbiaaaGreatDoor
