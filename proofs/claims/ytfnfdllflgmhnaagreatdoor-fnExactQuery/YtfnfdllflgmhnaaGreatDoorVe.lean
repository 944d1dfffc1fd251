import Derived.Test.YtfnfdllflgmhnaaGreatDoorVb
open Bool renaming and_eq_true → XV
open Go renaming Calls → XR, World → ο, bodyPost_ret → XL, results_tmp2 → Xg, Value → XU, heap_alloc_new → η, wpAnyH_done → XW, wpList_append_lies → XY, wp_region_held_drew → XO, cell_of_row → ε
open Go.Ending renaming returned → ρ
open Go.Ground renaming data → φ, phase → ξ
open Go.IntKind renaming i64 → κ
open Go.Obj renaming cells → γ
open Go.Operand renaming tmp → δ
open Go.Proofs.Tryz renaming prog → μ
open Go.RowKit renaming Below → υ, intOf → XX
open Go.RowKit.Below renaming refl → Xa
open Go.Value renaming int → ι, agg → χ, slice → σ, string → τ, tuple → θ
open Go.World renaming news_of_block → XP, ownsRow_made → Xb, size_alloc → ω
open Nat renaming add_zero → Xm, le_refl → XK, zero_le → XZ
open Option renaming none → ν, some → ς
namespace Go.Proofs.YtfnfdllflgmhnaaGreatDoor
open Go.RowKit Go.Maps Go.WideMaps
set_option maxRecDepth 20000
set_option maxHeartbeats 8000000
theorem LO(w:ο):(zeroValue 3).run μ w=.ok (ι κ 0) w:=by kernel_rfl
theorem Wj{L:List Int}(h:L.length=0):L=[]:=List.length_eq_zero_iff.1 h
theorem VZ{L:List Int}(h:L.length=1):∃ x,L=[x]:=List.length_eq_one_iff.1 h
theorem RU{L:List Int}(h:L.length=2):∃ x y,L=[x,y]:=by
 match L,h with
 | [x,y],_=>exact⟨x,y,rfl⟩
theorem QN{C:Nat->Clm}{n:Nat}{o mm:Int}{s:ByteArray}{L:List Int}(hl:L.length=2)(ho:o=7∨o=8):Bk C n ⟨o,mm,s⟩ L=GY L (L.getD 0 0) 1:=by
 obtain⟨x,y,rfl⟩:=RU hl;unfold Bk GY;rcases ho with rfl | rfl <;> simp <;> by_cases h:x=y <;> simp [h] <;> (intro h2;exact absurd h2.symm h)
theorem Tp{C:Nat->Clm}{n:Nat}{mm:Int}{s:ByteArray}{L:List Int}(hl:L.length=2):Bk C n ⟨12,mm,s⟩ L=GY L 2 2:=by
 obtain⟨x,y,rfl⟩:=RU hl;unfold Bk GY;simp
theorem To{C:Nat->Clm}{n:Nat}{mm:Int}{s:ByteArray}{L:List Int}(hl:L.length=1):Bk C n ⟨13,mm,s⟩ L=GY L 2 1:=by
 obtain⟨x,rfl⟩:=VZ hl;unfold Bk GY;simp
theorem Rf{C:Nat->Clm}{n:Nat}{o mm:Int}{s:ByteArray}{L:List Int}(h2:¬o=2)(h3:¬o=3)(h7:¬o=7)(h8:¬o=8)(h12:¬o=12)(h13:¬o=13):Bk C n ⟨o,mm,s⟩ L=GY L 1 1:=by
 unfold Bk GY;simp only
 rw [if_neg h2,if_neg h3,if_neg (by omega),if_neg h12,if_neg h13]
theorem Ph(ac:Option Addr)(n cc:Nat)(C:Nat->Clm)(mb:Nat)(o mm:Int)(s:ByteArray)(a:Option Addr)(c:Nat)(L:List Int)(w:ο)(hC:CL w ac n C)(hP:PlAt w mb n C)(hd:∀ k,k<n->Ah C (C k).s k=false)(hN:NI w a L)(hlen:L.length=DZ o)(ho:1<=o/\o<=13)(hs:s.size<=1048576) :
 XR μ 198 #[.agg #[.slice ac n cc,.map (ς mb)],.agg #[.int .i64 o,.int .i64 mm,.string s],.slice a L.length c] w λe w'=>e=.returned (.tuple #[.int .i64 (Bk C n ⟨o,mm,s⟩ L).1,.int .i64 (Bk C n ⟨o,mm,s⟩ L).2])/\υ w.heap.size w w':=by
 have hb0:υ w.heap.size w ((w.alloc (.cells #[.slice ac n cc,.map (ς mb)] 117)).alloc (.cells #[.int .i64 o,.int .i64 mm,.string s] 135)):=AA (AE _ _) (AE _ _);have hL100:L.length<=100:=by
  have:=CF o;have:=EP o;omega
 have HLN:Hid (L.length=DZ o):=hlen;clear hlen;by_cases e1:o=1
 ·
  subst e1;have HT:Hid (Bk C n ⟨1,mm,s⟩ L=(1,0)):=by
   show _=_
   have h0:L=[]:=Wj HLN.out;subst h0;rfl
  go_enter Tryz.func198,Tryz.ntmps198
  go_wp2;refine XL (Xg rfl _ _ _) rfl ⟨by rw [HT.out];rfl,hb0⟩
 by_cases e2:o=2
 ·
  subst e2;have HT:Hid (Bk C n ⟨2,mm,s⟩ L=(2,0)):=by show _=_;simp [Bk]
  go_enter Tryz.func198,Tryz.ntmps198
  go_wp2;refine XL (Xg rfl _ _ _) rfl ⟨by rw [HT.out];rfl,hb0⟩
 by_cases e3:o=3
 ·
  subst e3;have hkey:keyOf μ 9 (.string s)=ς (Cf s):=keyOf_string_mk Tryz.underlying9 (by unfold maxLen;omega);have hP3:=hP.later hb0;have hh:=JI C s n;rw [Fw] at hh;rcases hcol:Bo C s n with _ | q
  ·
   have HT:Hid (Bk C n ⟨3,mm,s⟩ L=(0,3)):=by show _=_;simp [Bk,hcol]
   have hh2:Maps.has (pl C n) (Cf s)=false:=by rw [hh,hcol];rfl
   clear hcol hh;go_enter Tryz.func198,Tryz.ntmps198
   go_wp2_with (at_lookup;refine wpList_lookup_own_ok_int _ rfl _ _ 115 rfl 9 3 .i64 K6 Tryz.underlying115 Tryz.underlying3 (LO _) mb n (pl C n) rfl hP3 _ _ rfl hkey ?_;intro cv hat hwc;rw [hh2];clear hat hwc)
   refine XL (Xg rfl _ _ _) rfl ⟨by rw [HT.out];rfl,hb0⟩
  ·
   have HT:Hid (Bk C n ⟨3,mm,s⟩ L=((C q).t,0)):=by show _=_;simp [Bk,hcol]
   have hh2:Maps.has (pl C n) (Cf s)=true:=by rw [hh,hcol];rfl
   have hq:=(Cu hcol).1;have HAT:Hid ((pl C n).atKey (Cf s) (.lit (.int .i64 0))=.lit (.int .i64 q)):=Mt hd hcol _;clear hcol hh;have hq0:(0:Int)<=q:=by omega
   have hqn:(q:Int)<n:=by omega
   obtain⟨b3,off3,rfl,t0_,t1_,-⟩:=hC.later hb0 q hq;obtain⟨tq,htq⟩:∃ t,(C q).t=t:=⟨_,rfl⟩;rw [htq] at t1_ HT;clear htq;go_enter Tryz.func198,Tryz.ntmps198
   go_wp2_with (at_lookup;refine wpList_lookup_own_ok_int _ rfl _ _ 115 rfl 9 3 .i64 K6 Tryz.underlying115 Tryz.underlying3 (LO _) mb n (pl C n) rfl hP3 _ _ rfl hkey ?_;intro cv hat hwc;rw [hh2];rw [HAT.out] at hat;obtain rfl:(q:Int)=cv:=(by simpa using hat);clear hat hwc)
   refine XL (Xg rfl _ _ _) rfl ⟨by rw [HT.out];rfl,hb0⟩
 by_cases e7:o=7
 ·
  subst e7;have hl2:L.length=2:=HLN.out;obtain⟨b1,off1,rfl,d0_⟩:=hN.later hb0 0 (by omega);rw [Xm] at d0_;have hl0:(0:Int)<L.length:=by omega
  obtain⟨x,hx⟩:∃ x,L.getD 0 0=x:=⟨_,rfl⟩;rw [hx] at d0_;obtain⟨r1,r2,hr⟩:∃ r1 r2,GY L (x) 1=(r1,r2):=⟨_,_,rfl⟩;have HT:Hid (Bk C n ⟨7,mm,s⟩ L=(r1,r2)):=by show _=_;rw [QN hl2 (by simp),hx];exact hr
  have HR:=λW (hW:υ w.heap.size w W)=>Id _ c L (x) 1 W (hN.later hW) hL100;simp only [hr] at HR
  have HRH:Hid (∀ W,υ w.heap.size w W->XR μ 211 #[.slice (ς ⟨b1,off1,ν⟩) L.length c,.int .i64 (x),.int .i64 1] W (λe w'=>e=.returned (.tuple #[.int .i64 r1,.int .i64 r2])/\υ W.heap.size W w')):=HR;clear hr HR;clear hx hl2;go_enter Tryz.func198,Tryz.ntmps198
  go_wp2_with (go_at_call 211;refine(HRH.out _ hb0).mono ?_;rintro e w1 ⟨rfl,hb1⟩)
  refine XL (Xg rfl _ _ _) rfl ⟨by rw [HT.out];rfl,AA hb0 hb1⟩
 by_cases e8:o=8
 ·
  subst e8;have hl2:L.length=2:=HLN.out;obtain⟨b1,off1,rfl,d0_⟩:=hN.later hb0 0 (by omega);rw [Xm] at d0_;have hl0:(0:Int)<L.length:=by omega
  obtain⟨x,hx⟩:∃ x,L.getD 0 0=x:=⟨_,rfl⟩;rw [hx] at d0_;obtain⟨r1,r2,hr⟩:∃ r1 r2,GY L (x) 1=(r1,r2):=⟨_,_,rfl⟩;have HT:Hid (Bk C n ⟨8,mm,s⟩ L=(r1,r2)):=by show _=_;rw [QN hl2 (by simp),hx];exact hr
  have HR:=λW (hW:υ w.heap.size w W)=>Id _ c L (x) 1 W (hN.later hW) hL100;simp only [hr] at HR
  have HRH:Hid (∀ W,υ w.heap.size w W->XR μ 211 #[.slice (ς ⟨b1,off1,ν⟩) L.length c,.int .i64 (x),.int .i64 1] W (λe w'=>e=.returned (.tuple #[.int .i64 r1,.int .i64 r2])/\υ W.heap.size W w')):=HR;clear hr HR;clear hx hl2;go_enter Tryz.func198,Tryz.ntmps198
  go_wp2_with (go_at_call 211;refine(HRH.out _ hb0).mono ?_;rintro e w1 ⟨rfl,hb1⟩)
  refine XL (Xg rfl _ _ _) rfl ⟨by rw [HT.out];rfl,AA hb0 hb1⟩
 by_cases e12:o=12
 ·
  subst e12;have hl2:L.length=2:=HLN.out;obtain⟨r1,r2,hr⟩:∃ r1 r2,GY L (2) 2=(r1,r2):=⟨_,_,rfl⟩;have HT:Hid (Bk C n ⟨12,mm,s⟩ L=(r1,r2)):=by show _=_;rw [Tp hl2];exact hr
  have HR:=λW (hW:υ w.heap.size w W)=>Id a c L (2) 2 W (hN.later hW) hL100;simp only [hr] at HR
  have HRH:Hid (∀ W,υ w.heap.size w W->XR μ 211 #[.slice a L.length c,.int .i64 (2),.int .i64 2] W (λe w'=>e=.returned (.tuple #[.int .i64 r1,.int .i64 r2])/\υ W.heap.size W w')):=HR;clear hr HR;clear hl2;go_enter Tryz.func198,Tryz.ntmps198
  go_wp2_with (go_at_call 211;refine(HRH.out _ hb0).mono ?_;rintro e w1 ⟨rfl,hb1⟩)
  refine XL (Xg rfl _ _ _) rfl ⟨by rw [HT.out];rfl,AA hb0 hb1⟩
 by_cases e13:o=13
 ·
  subst e13;have hl2:L.length=1:=HLN.out;obtain⟨r1,r2,hr⟩:∃ r1 r2,GY L (2) 1=(r1,r2):=⟨_,_,rfl⟩;have HT:Hid (Bk C n ⟨13,mm,s⟩ L=(r1,r2)):=by show _=_;rw [To hl2];exact hr
  have HR:=λW (hW:υ w.heap.size w W)=>Id a c L (2) 1 W (hN.later hW) hL100;simp only [hr] at HR
  have HRH:Hid (∀ W,υ w.heap.size w W->XR μ 211 #[.slice a L.length c,.int .i64 (2),.int .i64 1] W (λe w'=>e=.returned (.tuple #[.int .i64 r1,.int .i64 r2])/\υ W.heap.size W w')):=HR;clear hr HR;clear hl2;go_enter Tryz.func198,Tryz.ntmps198
  go_wp2_with (go_at_call 211;refine(HRH.out _ hb0).mono ?_;rintro e w1 ⟨rfl,hb1⟩)
  refine XL (Xg rfl _ _ _) rfl ⟨by rw [HT.out];rfl,AA hb0 hb1⟩
 have n1:(o == 1)=false:=by simpa using e1
 have n2:(o == 2)=false:=by simpa using e2
 have n3:(o == 3)=false:=by simpa using e3
 have n7:(o == 7)=false:=by simpa using e7
 have n8:(o == 8)=false:=by simpa using e8
 have n12:(o == 12)=false:=by simpa using e12
 have n13:(o == 13)=false:=by simpa using e13
 obtain⟨r1,r2,hr⟩:∃ r1 r2,GY L (1) 1=(r1,r2):=⟨_,_,rfl⟩;have HT:Hid (Bk C n ⟨o,mm,s⟩ L=(r1,r2)):=by show _=_;rw [Rf e2 e3 e7 e8 e12 e13];exact hr
 have HR:=λW (hW:υ w.heap.size w W)=>Id a c L (1) 1 W (hN.later hW) hL100;simp only [hr] at HR
 have HRH:Hid (∀ W,υ w.heap.size w W->XR μ 211 #[.slice a L.length c,.int .i64 (1),.int .i64 1] W (λe w'=>e=.returned (.tuple #[.int .i64 r1,.int .i64 r2])/\υ W.heap.size W w')):=HR;clear hr HR;clear e1 e2 e3 e7 e8 e12 e13;go_enter Tryz.func198,Tryz.ntmps198
 go_wp2_with (go_at_call 211;refine(HRH.out _ hb0).mono ?_;rintro e w1 ⟨rfl,hb1⟩)
 refine XL (Xg rfl _ _ _) rfl ⟨by rw [HT.out];rfl,AA hb0 hb1⟩
set_option maxHeartbeats 16000000
abbrev Uo:Oper:=⟨ς 28,.move (δ 1),261,"l5_replay.go:245",#[],ν⟩
abbrev Un:Oper:=⟨ς 29,.load 135 (δ 9),135,"l5_replay.go:245",#[],ν⟩
abbrev Um:Oper:=⟨ς 30,.move (δ 7),194,"l5_replay.go:245",#[],ν⟩
abbrev Ul:Oper:=⟨ς 31,.move (δ 10),3,"l5_replay.go:245",#[],ν⟩
abbrev Uk:Oper:=⟨ς 32,.slice 194 (δ 30) (ς (δ 31)) ν ν,194,"l5_replay.go:245",#[⟨2,φ⟩,⟨3,φ⟩],ν⟩
abbrev Uj:Oper:=⟨ς 33,.call ⟨.value (δ 28),#[δ 29,δ 32],#[135,194]⟩,113,"l5_replay.go:245",#[⟨0,φ⟩,⟨1,φ⟩,⟨4,φ⟩],ν⟩
abbrev Ui:Oper:=⟨ς 27,.move (δ 33),113,"l5_replay.go:245",#[⟨5,φ⟩],ν⟩
abbrev Uh:Oper:=⟨ς 34,.extract (δ 27) 0,3,"l5_replay.go:245",#[⟨6,φ⟩],ν⟩
abbrev Ug:Oper:=⟨ς 35,.extract (δ 27) 1,3,"l5_replay.go:245",#[⟨6,φ⟩,⟨9,.gcOnly .lateStores⟩],ν⟩
abbrev Uf:Oper:=⟨ς 11,.assign (δ 34),3,"l5_replay.go:245",#[⟨7,φ⟩,⟨5,.chain⟩,⟨0,ξ⟩,⟨1,ξ⟩,⟨2,ξ⟩,⟨3,ξ⟩,⟨4,ξ⟩,⟨5,ξ⟩,⟨6,ξ⟩,⟨7,ξ⟩,⟨8,.textOnly .lateStores⟩],ν⟩
abbrev QT:Oper:=⟨ς 12,.assign (δ 35),3,"l5_replay.go:245",#[⟨8,φ⟩,⟨9,.chain⟩,⟨0,ξ⟩,⟨1,ξ⟩,⟨2,ξ⟩,⟨3,ξ⟩,⟨4,ξ⟩,⟨5,ξ⟩,⟨6,ξ⟩,⟨7,ξ⟩,⟨8,ξ⟩,⟨9,ξ⟩],ν⟩
theorem IW{t e:TypeId}{z:XU}{size bytes:Nat}(ht:Tryz.prog.underlying t=ς (.slice e))(hinfo:(Tryz.prog.info? e).map (λi=>(i.zero,i.size,i.bytes))=ς (ς z,size,bytes))(n:Nat)(hn:n<=1048576)(hb:bytes<=1000)(w:ο) :
 (Instr.makeSlice t (ι κ 0) (ι κ (n:Int))).run μ w=.ok (σ (ς ⟨w.heap.size,0,ν⟩) 0 n) (w.alloc (γ (madeCells z.cells (n * size)) e)):=by
 obtain⟨i,hi,hzz⟩:=Option.map_eq_some_iff.1 hinfo;simp only [Prod.mk.injEq] at hzz
 obtain⟨hz,hs,hbb⟩:=hzz;have h1:((i.bytes:Int) * (n:Int))<=281474976710656:=by
  rw [hbb];have:bytes * n<=1000 * 1048576:=Nat.mul_le_mul hb hn;have h2:((bytes:Int) * (n:Int))=((bytes * n:Nat):Int):=by simp
  omega
 have:=run_make (P:=μ) w t e i z ht hi hz κ κ 0 n (by omega) (by omega) h1 (by omega);rw [hs] at this;simp only [Int.toNat_natCast] at this
 exact this
theorem Mx{o m:Int}{s:ByteArray}(h:Av o m s=true):DT o m s=Aj o:=by
 simp only [Av,Bool.or_eq_true,XV,decide_eq_true_eq,beq_iff_eq] at h
 unfold DT Aj;rcases h with ((⟨⟨rfl,-⟩,hs⟩ | ⟨⟨rfl,hm⟩,-⟩) | ⟨⟨rfl,hm⟩,-⟩) | ⟨⟨hb,hm⟩,hs⟩
 · simp [hs]
 · simp [hm]
 · simp [hm]
 ·
  have hb2:=hb;simp only [Bb,XV,decide_eq_true_eq] at hb2
  rw [if_neg (by omega)];by_cases h1:o=11∨o=13
  · rw [if_pos ⟨h1,hm,hs⟩,if_neg (by omega),if_pos h1]
  ·
   have hS:DI o=true:=by
    unfold DI Bb;simp only [Bool.or_eq_true,XV,decide_eq_true_eq,beq_iff_eq]
    omega
   rw [if_neg (λh=>h1 h.1),if_pos ⟨hm,hs,hS⟩,if_neg (by omega),if_neg h1]
theorem OC{C:Nat->Clm}{n:Nat}{t:Itm}{L:List Int}:¬(Bk C n t L).2=0->(Bk C n t L).1=0:=by
 intro h;unfold Bk at h ⊢;by_cases h2:t.o=2
 · rw [if_pos h2] at h;exact absurd rfl h
 rw [if_neg h2] at h ⊢;by_cases h3:t.o=3
 ·
  rw [if_pos h3] at h ⊢;revert h
  cases Bo C t.s n <;> simp
 rw [if_neg h3] at h ⊢;by_cases h7:t.o=7∨t.o=8
 ·
  rw [if_pos h7] at h ⊢;by_cases e:L.getD 0 0=L.getD 1 0
  · rw [if_pos e] at h;exact absurd rfl h
  · rw [if_neg e]
 rw [if_neg h7] at h ⊢;by_cases h12:t.o=12
 ·
  rw [if_pos h12] at h ⊢;by_cases e:L.getD 0 0=2/\L.getD 1 0=2
  · rw [if_pos e] at h;exact absurd rfl h
  · rw [if_neg e]
 rw [if_neg h12] at h ⊢;by_cases h13:t.o=13
 ·
  rw [if_pos h13] at h ⊢;by_cases e:L.getD 0 0=2
  · rw [if_pos e] at h;exact absurd rfl h
  · rw [if_neg e]
 rw [if_neg h13] at h ⊢;by_cases e:L.all (λx=>x == 1)=true
 · rw [if_pos e] at h;exact absurd rfl h
 · rw [if_neg e]
theorem Sk.ni{w:ο}{base g cap:Nat}{L:List Int}(h:Sk w base g cap L)(j:Nat):NI w (ς ⟨g,j,ν⟩) (L.drop j):=λk hk=>by
 rw [List.length_drop] at hk;refine⟨g,j,rfl,?_⟩;rw [Bj];exact h.at (by omega)
theorem Ga{w:ο}{base g cap j:Nat}{L:List Int}(h:Sk w base g cap L)(hj:j<=L.length):w.ownsRow base 3 1 (σ (ς ⟨g,0,ν⟩) j cap) j (Ba (L.take j)):=by
 have:=Fr h hj;rwa [show (Ba L).take j=Ba (L.take j) from by unfold Ba;rw [List.map_take]] at this
theorem TE(ac:Option Addr)(n cc:Nat)(C:Nat->Clm)(mb:Nat)(a:Option Addr)(m c:Nat)(I:Nat->Itm)(w:ο)(hC:CL w ac n C)(hP:PlAt w mb n C)(hdp:∀ k,k<n->Ah C (C k).s k=false)(hI:IL w a m I)(hm:m<=100)(hx:ex I m=ς 1) :
 XR μ 197 #[σ a m c,.func (.func 198) #[χ #[σ ac n cc,.map (ς mb)]] #[]] w λe w'=>e=ρ (θ #[ι κ (De C n I m).1,ι κ (De C n I m).2])/\υ w.heap.size w w':=by
 have HX:Hid (ex I m=ς 1):=hx;have HDP:Hid (∀ k,k<n->Ah C (C k).s k=false):=hdp;clear hx hdp;obtain⟨i0,hi,hz0,hz1,hz2⟩:=info_parts Tryz.infoInt;have HI:Hid (Tryz.prog.info? 3=ς i0):=hi;clear hi;have hmk:=IW Tryz.underlying194 Tryz.infoInt m (by omega) (by omega) w;have hO0:Sk (w.alloc (γ (madeCells (ι κ 0).cells (m * 1)) 3)) w.heap.size w.heap.size m []:=Xb w _ m (XK _) (by unfold maxLen;omega) (Bv _ _);have hb0:=AE w (γ (madeCells (ι κ 0).cells (m * 1)) 3);generalize w.alloc (γ (madeCells (ι κ 0).cells (m * 1)) 3)=w0 at hmk hO0 hb0;go_enter Tryz.func197,Tryz.ntmps197
 go_wp2;clear hmk;go_loopw [6,7,9,10,11,12,18] (λv6 v7 _ _ _ _ i wr=>∃ (k g cap:Nat) (L:List Int) (lst:Int),k<=m/\i=ι κ k/\v6=ι κ lst/\v7=σ (ς ⟨g,0,ν⟩) L.length cap/\ck C n I k=(L,0)/\Sk wr w.heap.size g cap L/\(0<k->L.getLast?=ς lst)/\υ w.heap.size w wr) (λ_ _ _ _ _ _ i _=>m - (XX i).toNat)
 case atStart=>exact⟨0,w.heap.size,m,[],0,by omega,rfl,rfl,rfl,rfl,hO0,λh=>by omega,hb0⟩
 case round=>
  obtain⟨k,g,cap,L,lst,hk,rfl,rfl,rfl,hck,hO,hlst,hb⟩:=hrel;have HCK:Hid (ck C n I k=(L,0)/\(0<k->L.getLast?=ς lst)):=⟨hck,hlst⟩;clear hck hlst;have hsw:=hb.size;by_cases hlt:k<m
  rotate_left
  ·
   obtain rfl:k=m:=by omega
   have e:Hid (De C n I k=(lst,0)):=by
    show _=_
    have hl1:=Hk (C:=C) (n:=n) HX.out (by rw [HCK.out.1]);rw [HCK.out.1] at hl1;simp only at hl1
    have hk1:0<k:=by
     have:=F0 HX.out;omega
    have h3:=HCK.out.2 hk1;obtain⟨x,rfl⟩:=VZ (L:=L) (by omega);simp at h3
    unfold De;rw [HCK.out.1,h3];rfl
   go_wp2;refine XL (Xg rfl _ _ _) rfl ⟨by rw [e.out];rfl,hb⟩
  obtain⟨d,hd,hok,had⟩:=F1 HX.out hlt;have hlen:((L.length:Nat):Int)=d:=by
   have:=Hk (C:=C) (n:=n) hd (by rw [HCK.out.1]);rwa [HCK.out.1] at this
  have hll:=F0 hd;have hst:ck C n I (k+1)=if (Bk C n (I k) (L.drop (L.length - DZ (I k).o))).2≠0 then (L,(Bk C n (I k) (L.drop (L.length - DZ (I k).o))).2) else (L.take (L.length - DZ (I k).o) ++ [(Bk C n (I k) (L.drop (L.length - DZ (I k).o))).1],0):=by
   rw [ck,HCK.out.1];simp only [LY]
   rw [if_neg (by simp)];rfl
  obtain⟨b,off,rfl,c0,c1,c2,hs⟩:=hI.later hb k hlt;obtain⟨o,mm,s,hIk⟩:∃ o mm s,I k=⟨o,mm,s⟩:=⟨_,_,_,rfl⟩;rw [hIk] at hok had hst c0 c1 c2 hs;simp only at hok had hst c0 c1 c2 hs
  have hop:=DN hok;have HOPN:Hid (DT o mm s=Aj o):=Mx hok;have ha:=EP o;have hal:=CF o;obtain⟨j,hj⟩:∃ j:Nat,L.length - DZ o=j:=⟨_,rfl⟩;rw [hj] at hst;have hj1:((L.length:Nat):Int) - Aj o=(j:Nat):=by omega
  have hjl:j<=L.length:=by omega
  have hcp:=IN hO;have hjj:(j:Int)<=L.length:=by omega
  have hjc:(j:Int)<=cap:=by omega
  have hjc2:j<=cap:=by omega
  have hj0:(0:Int)<=j:=by omega
  have hj100:j<=100:=by omega
  have hdr:(L.drop j).length=DZ o:=by rw [List.length_drop];omega
  obtain⟨r1,r2,hr⟩:∃ r1 r2,Bk C n ⟨o,mm,s⟩ (L.drop j)=(r1,r2):=⟨_,_,rfl⟩;have HTY:∀ (ad:Option Addr) (cx:Nat) W',υ wr.heap.size wr W'->NI W' ad (L.drop j)->XR μ 198 #[χ #[σ ac n cc,.map (ς mb)],χ #[ι κ o,ι κ mm,τ s],σ ad (L.length - j) cx] W' (λe w'=>e=ρ (θ #[ι κ r1,ι κ r2])/\υ W'.heap.size W' w'):=λad cx W' hW hNI=>by
   have:=Ph ac n cc C mb o mm s ad cx (L.drop j) W' (hC.later (AA hb hW)) (hP.later (AA hb hW)) HDP.out hNI hdr hop hs;rwa [hr,List.length_drop] at this
  have HTYH:Hid (∀ (ad:Option Addr) (cx:Nat) W',υ wr.heap.size wr W'->NI W' ad (L.drop j)->XR μ 198 #[χ #[σ ac n cc,.map (ς mb)],χ #[ι κ o,ι κ mm,τ s],σ ad (L.length - j) cx] W' (λe w'=>e=ρ (θ #[ι κ r1,ι κ r2])/\υ W'.heap.size W' w')):=HTY;have HST:Hid (ck C n I (k+1)=if ¬r2=0 then (L,r2) else (L.take j ++ [r1],0)):=by show _=_;rw [hst,hr]
  have HR1:Hid (¬r2=0->r1=0):=λh2=>by
   have:=OC (C:=C) (n:=n) (t:=⟨o,mm,s⟩) (L:=L.drop j);rw [hr] at this;exact this h2
  have HLE:Hid (((L.length:Nat):Int)=d/\L.length - DZ o=j/\L.length<=100):=⟨hlen,hj,by omega⟩;clear hst hIk hj ha had hd hok hlen hr HTY hdr;have hB1:υ wr.heap.size wr (wr.alloc (γ #[ι κ o,ι κ mm,τ s] 135)):=AE _ _;have hrow:=η wr (γ #[ι κ o,ι κ mm,τ s] 135);obtain⟨y0,y1,y2,-⟩:=AX hrow;have hsW:(wr.alloc (γ #[ι κ o,ι κ mm,τ s] 135)).heap.size=wr.heap.size+1:=ω _ _;have HNI1:Hid (∀ W',υ wr.heap.size wr W'->NI W' (ς ⟨g,j,ν⟩) (L.drop j)):=λW' hW=>Sk.ni (AH hO hW) j;have HNI0:Hid (cap=j->∀ W',NI W' (ς ⟨g,0,ν⟩) (L.drop j)):=λhc W' q hq=>by rw [List.length_drop] at hq;omega
  by_cases hcj:cap=j
  ·
   have hOj:Sk wr w.heap.size g j L:=by rw [←hcj];exact hO
   go_upto_region 7 with (go_at_call 192;refine(Cy o mm s _).mono ?_;rintro e w3 ⟨rfl,hb3⟩;rw [HOPN.out];have y0_:=AB hb3 y0;have y1_:=AB hb3 y1;have y2_:=AB hb3 y2)
   refine XO (S:=λx=>υ w3.heap.size w3 x) (by kernel_rfl) (CE _) (λjH=>?_);refine tk 0 Uo (λx jS=>by go_simp<;>rfl) jH ?_
   try simp only [zS]
   refine tk 1 Un (λx jS=>by have k0:=AB jS y0_;have k1:=AB jS y1_;have k2:=AB jS y2_;go_simp<;>rfl) jH ?_
   try simp only [zS]
   refine tk 2 Um (λx jS=>by go_simp<;>rfl) jH ?_
   try simp only [zS]
   refine tk 3 Ul (λx jS=>by go_simp<;>rfl) jH ?_
   try simp only [zS]
   refine tk 4 Uk (λx jS=>by go_simp<;>rfl) jH ?_
   try simp only [zS]
   refine rd 5 Uj (λK hK=>?_);go_simp;refine(HTYH.out (ς ⟨g,0,ν⟩) 0 _ (AA hB1 (AA hb3 jH)) (HNI0.out hcj _)).mono ?_;rintro e w4 ⟨rfl,hb4⟩;refine hK.out _ _ (AA jH hb4) (λjH=>?_);clear hK K;try simp only [zS]
   refine tk 6 Ui (λx jS=>by go_simp<;>rfl) jH ?_
   try simp only [zS]
   refine tk 7 Uh (λx jS=>by go_simp<;>rfl) jH ?_
   try simp only [zS]
   refine tk 8 Ug (λx jS=>by go_simp<;>rfl) jH ?_
   try simp only [zS]
   refine tk 9 Uf (λx jS=>by go_simp<;>rfl) jH ?_
   try simp only [zS]
   refine tk 10 QT (λx jS=>by go_simp<;>rfl) jH ?_
   try simp only [zS]
   refine XW (by kernel_rfl) ?_ _;have hb34:υ wr.heap.size wr w4:=AA hB1 (AA hb3 jH);clear jH;have hO4:Sk w4 w.heap.size g j L:=AH hOj hb34;have hss4:=hb34.size;by_cases he:r2=0
   ·
    subst he;go_wp2_with (at_builtin;refine XY _ rfl _ _ _ rfl w.heap.size 3 i0 (ι κ 0) 1 8 Tryz.underlying194 HI.out hz0 hz1 hz2 rfl (by omega) (σ (ς ⟨g,0,ν⟩) j j) j (Ba (L.take j)) rfl (AH (Ga hO4 hjl) (AE _ _)) ⟨w4.heap.size,0,ν⟩ 1 1 [ι κ r1] rfl rfl (XP (η w4 _)) (Bu _ rfl) (by omega) (by unfold maxLen;omega) (by omega) (by simp;omega) _ rfl ?_;intro g6 cap6 w6 hO6 hgr6 hat6 hlt6)
    obtain⟨q1,q2⟩:=Cq hjl hO6;have hgl:=hO4.lt g rfl;have hb6:=gB (AA (AA hb hb34) (AE _ _)) (r:=g) hgr6 hgl.1;go_roundw
    case rel=>exact⟨k+1,g6,cap6,L.take j ++ [r1],r1,by omega,by go_num,rfl,by rw [q1],by rw [HST.out];rfl,q2,λ_=>by simp,hb6⟩
    case measure=>simp [XX];omega
   ·
    have n0:(r2 != 0)=true:=by simpa using he
    have hE:Hid (De C n I m=(r1,r2)):=by
     show _=_
     have e1:ck C n I (k+1)=(L,r2):=by rw [HST.out,if_pos he]
     have e2:=D4 (C:=C) (n:=n) (I:=I) (k:=k+1) (by rw [e1];exact he) m hlt;unfold De;rw [e2,e1,if_pos he,HR1.out he]
    clear he;go_wp2;refine XL (Xg rfl _ _ _) rfl ⟨by rw [hE.out];rfl,AA hb hb34⟩
  ·
   skip
   go_upto_region 7 with (go_at_call 192;refine(Cy o mm s _).mono ?_;rintro e w3 ⟨rfl,hb3⟩;rw [HOPN.out];have y0_:=AB hb3 y0;have y1_:=AB hb3 y1;have y2_:=AB hb3 y2)
   refine XO (S:=λx=>υ w3.heap.size w3 x) (by kernel_rfl) (CE _) (λjH=>?_);refine tk 0 Uo (λx jS=>by go_simp<;>rfl) jH ?_
   try simp only [zS]
   refine tk 1 Un (λx jS=>by have k0:=AB jS y0_;have k1:=AB jS y1_;have k2:=AB jS y2_;go_simp<;>rfl) jH ?_
   try simp only [zS]
   refine tk 2 Um (λx jS=>by go_simp<;>rfl) jH ?_
   try simp only [zS]
   refine tk 3 Ul (λx jS=>by go_simp<;>rfl) jH ?_
   try simp only [zS]
   refine tk 4 Uk (λx jS=>by go_simp<;>rfl) jH ?_
   try simp only [zS]
   refine rd 5 Uj (λK hK=>?_);go_simp;refine(HTYH.out (ς ⟨g,j,ν⟩) (cap - j) _ (AA hB1 (AA hb3 jH)) (HNI1.out _ (AA hB1 (AA hb3 jH)))).mono ?_;rintro e w4 ⟨rfl,hb4⟩;refine hK.out _ _ (AA jH hb4) (λjH=>?_);clear hK K;try simp only [zS]
   refine tk 6 Ui (λx jS=>by go_simp<;>rfl) jH ?_
   try simp only [zS]
   refine tk 7 Uh (λx jS=>by go_simp<;>rfl) jH ?_
   try simp only [zS]
   refine tk 8 Ug (λx jS=>by go_simp<;>rfl) jH ?_
   try simp only [zS]
   refine tk 9 Uf (λx jS=>by go_simp<;>rfl) jH ?_
   try simp only [zS]
   refine tk 10 QT (λx jS=>by go_simp<;>rfl) jH ?_
   try simp only [zS]
   refine XW (by kernel_rfl) ?_ _;have hb34:υ wr.heap.size wr w4:=AA hB1 (AA hb3 jH);clear jH;have hO4:Sk w4 w.heap.size g cap L:=AH hO hb34;have hss4:=hb34.size;by_cases he:r2=0
   ·
    subst he;go_wp2_with (at_builtin;refine XY _ rfl _ _ _ rfl w.heap.size 3 i0 (ι κ 0) 1 8 Tryz.underlying194 HI.out hz0 hz1 hz2 rfl (by omega) (σ (ς ⟨g,0,ν⟩) j cap) j (Ba (L.take j)) rfl (AH (Ga hO4 hjl) (AE _ _)) ⟨w4.heap.size,0,ν⟩ 1 1 [ι κ r1] rfl rfl (XP (η w4 _)) (Bu _ rfl) (by omega) (by unfold maxLen;omega) (by omega) (by simp;omega) _ rfl ?_;intro g6 cap6 w6 hO6 hgr6 hat6 hlt6)
    obtain⟨q1,q2⟩:=Cq hjl hO6;have hgl:=hO4.lt g rfl;have hb6:=gB (AA (AA hb hb34) (AE _ _)) (r:=g) hgr6 hgl.1;go_roundw
    case rel=>exact⟨k+1,g6,cap6,L.take j ++ [r1],r1,by omega,by go_num,rfl,by rw [q1],by rw [HST.out];rfl,q2,λ_=>by simp,hb6⟩
    case measure=>simp [XX];omega
   ·
    have n0:(r2 != 0)=true:=by simpa using he
    have hE:Hid (De C n I m=(r1,r2)):=by
     show _=_
     have e1:ck C n I (k+1)=(L,r2):=by rw [HST.out,if_pos he]
     have e2:=D4 (C:=C) (n:=n) (I:=I) (k:=k+1) (by rw [e1];exact he) m hlt;unfold De;rw [e2,e1,if_pos he,HR1.out he]
    clear he;go_wp2;refine XL (Xg rfl _ _ _) rfl ⟨by rw [hE.out];rfl,AA hb hb34⟩
theorem KN(ac:Option Addr)(n cc:Nat)(C:Nat->Clm)(mb:Nat)(a:Option Addr)(m c:Nat)(I:Nat->Itm)(w:ο)(hC:CL w ac n C)(hP:PlAt w mb n C)(hdp:∀ k,k<n->Ah C (C k).s k=false)(hI:IL w a m I)(hm:m<=100)(hx:ex I m=ς 1) :
 XR μ 163 #[χ #[σ ac n cc,.map (ς mb)],σ a m c] w λe w'=>e=ρ (θ #[ι κ (De C n I m).1,ι κ (De C n I m).2])/\υ w.heap.size w w':=by
 have hb0:=AE w (γ #[σ ac n cc,.map (ς mb)] 117);have HW:=TE ac n cc C mb a m c I (w.alloc (γ #[σ ac n cc,.map (ς mb)] 117)) (hC.later hb0) (hP.later hb0) hdp (hI.later hb0) hm hx;obtain⟨ek,ec,hck⟩:∃ ek ec,De C n I m=(ek,ec):=⟨_,_,rfl⟩;rw [hck] at HW ⊢;clear hck hx;go_enter Tryz.func163,Tryz.ntmps163
 go_wp2_with (go_at_call 197;refine HW.mono ?_;rintro e w1 ⟨rfl,hb1⟩)
 refine XL (Xg rfl _ _ _) rfl ⟨rfl,AA hb0 hb1⟩
def Tl(C:Nat->Clm)(n:Nat)(I:Nat->Itm)(m:Nat)(q:Int):Int:=if (De C n I m).2=0/\¬(De C n I m).1=q then 4 else (De C n I m).2
theorem Pt(ac:Option Addr)(n cc:Nat)(C:Nat->Clm)(mb:Nat)(a:Option Addr)(m c:Nat)(I:Nat->Itm)(q:Int)(w:ο)(hC:CL w ac n C)(hP:PlAt w mb n C)(hdp:∀ k,k<n->Ah C (C k).s k=false)(hI:IL w a m I)(hm:m<=100)(hx:ex I m=ς 1) :
 XR μ 196 #[χ #[σ ac n cc,.map (ς mb)],σ a m c,ι κ q] w λe w'=>e=ρ (ι κ (Tl C n I m q))/\υ w.heap.size w w':=by
 have hb0:=AE w (γ #[σ ac n cc,.map (ς mb)] 117);have HW:=KN ac n cc C mb a m c I (w.alloc (γ #[σ ac n cc,.map (ς mb)] 117)) (hC.later hb0) (hP.later hb0) hdp (hI.later hb0) hm hx;obtain⟨ek,ec,hck⟩:∃ ek ec,De C n I m=(ek,ec):=⟨_,_,rfl⟩;rw [hck] at HW;have HK:Hid (De C n I m=(ek,ec)):=hck;clear hck hx;by_cases e0:ec=0
 ·
  subst e0;by_cases e1:ek=q
  ·
   subst e1;go_enter Tryz.func196,Tryz.ntmps196
   go_wp2_with (go_at_call 163;refine HW.mono ?_;rintro e w1 ⟨rfl,hb1⟩)
   go_ret
   exact⟨by unfold Tl;rw [HK.out,if_neg (by simp)];rfl,AA hb0 hb1⟩
  ·
   have n2:(ek != q)=true:=by simpa using e1
   have HE:Hid (¬ek=q):=e1;clear e1;go_enter Tryz.func196,Tryz.ntmps196
   go_wp2_with (go_at_call 163;refine HW.mono ?_;rintro e w1 ⟨rfl,hb1⟩)
   go_ret
   exact⟨by unfold Tl;rw [HK.out,if_pos ⟨rfl,HE.out⟩];rfl,AA hb0 hb1⟩
 ·
  have n1:(ec == 0)=false:=by simpa using e0
  have HE:Hid (¬ec=0):=e0;clear e0;go_enter Tryz.func196,Tryz.ntmps196
  go_wp2_with (go_at_call 163;refine HW.mono ?_;rintro e w1 ⟨rfl,hb1⟩)
  go_ret
  exact⟨by unfold Tl;rw [HK.out,if_neg (λh=>HE.out h.1)];rfl,AA hb0 hb1⟩
theorem NQ(ac:Option Addr)(n cc:Nat)(C:Nat->Clm)(mb:Nat)(a:Option Addr)(m c:Nat)(I:Nat->Itm)(w:ο)(hC:CL w ac n C)(hP:PlAt w mb n C)(hdp:∀ k,k<n->Ah C (C k).s k=false)(hI:IL w a m I)(hok:AR I m=true) :
 XR μ 164 #[χ #[σ ac n cc,.map (ς mb)],σ a m c] w λe w'=>e=ρ (ι κ (EO C n I m))/\υ w.heap.size w w':=by
 have hb0:=AE w (γ #[σ ac n cc,.map (ς mb)] 117);by_cases h0:m=0
 ·
  subst h0;go_enter Tryz.func164,Tryz.ntmps164
  go_wp2;go_ret
  exact⟨by simp [EO],hb0⟩
 ·
  obtain⟨h1,h2,h3⟩:=DA hok h0;have HW:=Pt ac n cc C mb a m c I 1 (w.alloc (γ #[σ ac n cc,.map (ς mb)] 117)) (hC.later hb0) (hP.later hb0) hdp (hI.later hb0) h1 h3;have HE:Hid (EO C n I m=Tl C n I m 1):=by show _=_;unfold EO Tl;rw [if_neg h0]
  have n0:((m:Int) == 0)=false:=by simp;omega
  clear h0 h3 hok;go_enter Tryz.func164,Tryz.ntmps164
  go_wp2_with (go_at_call 196;refine HW.mono ?_;rintro e w1 ⟨rfl,hb1⟩)
  go_ret
  exact⟨by rw [HE.out];rfl,AA hb0 hb1⟩
theorem NR(ac:Option Addr)(n cc:Nat)(C:Nat->Clm)(mb:Nat)(tb:ByteArray)(a2:Option Addr)(n2 c2:Nat)(a3:Option Addr)(n3 c3:Nat)(col:ByteArray)(a5:Option Addr)(n5 c5:Nat)(a6:Option Addr)(n6 c6:Nat)(a7:Option Addr)(n7 c7:Nat)(W:Nat->Itm)(m7:Nat->Nat)(O:Nat->Nat->Itm)(w:ο)(hC:CL w ac n C)(hP:PlAt w mb n C)(hdp:∀ k,k<n->Ah C (C k).s k=false)(hO:OL w a7 n7 m7 O)(hW:IL w a6 n6 W)(h7:n7<=1048576)(hex:∀ i,i<n7->Ag (O i) (m7 i)=true)(hok:AR W n6=true) :
 XR μ 117 #[χ #[σ ac n cc,.map (ς mb)],χ #[ι κ 5,τ tb,σ a2 n2 c2,σ a3 n3 c3,τ col,σ a5 n5 c5,σ a6 n6 c6,σ a7 n7 c7]] w λe w'=>e=ρ (ι κ (JS C n m7 O n7 W n6))/\υ w.heap.size w w':=by
 have HEX:Hid (∀ i,i<n7->Ag (O i) (m7 i)=true):=hex;have HDP:Hid (∀ k,k<n->Ah C (C k).s k=false):=hdp;have HOK:Hid (AR W n6=true):=hok;clear hex hdp hok;have hbU:υ w.heap.size w ((w.alloc (γ #[σ ac n cc,.map (ς mb)] 117)).alloc (γ #[ι κ 5,τ tb,σ a2 n2 c2,σ a3 n3 c3,τ col,σ a5 n5 c5,σ a6 n6 c6,σ a7 n7 c7] 64)):=AA (AE _ _) (AE _ _);have hq0:((w.alloc (γ #[σ ac n cc,.map (ς mb)] 117)).alloc (γ #[ι κ 5,τ tb,σ a2 n2 c2,σ a3 n3 c3,τ col,σ a5 n5 c5,σ a6 n6 c6,σ a7 n7 c7] 64)).heap[w.heap.size]?=ς (γ #[σ ac n cc,.map (ς mb)] 117 (0,0)):=AC (η w _) (AE _ _);have hq1:((w.alloc (γ #[σ ac n cc,.map (ς mb)] 117)).alloc (γ #[ι κ 5,τ tb,σ a2 n2 c2,σ a3 n3 c3,τ col,σ a5 n5 c5,σ a6 n6 c6,σ a7 n7 c7] 64)).heap[w.heap.size+1]?=ς (γ #[ι κ 5,τ tb,σ a2 n2 c2,σ a3 n3 c3,τ col,σ a5 n5 c5,σ a6 n6 c6,σ a7 n7 c7] 64 (0,0)):=by
  have q:=η (w.alloc (γ #[σ ac n cc,.map (ς mb)] 117)) (γ #[ι κ 5,τ tb,σ a2 n2 c2,σ a3 n3 c3,τ col,σ a5 n5 c5,σ a6 n6 c6,σ a7 n7 c7] 64);rw [ω] at q;exact q
 go_enter Tryz.func117,Tryz.ntmps117
 go_wp2;go_loopw [7,8,9,36] (λ_ _ _ i wr=>∃ k:Nat,k<=n7/\i=ι κ k/\GE C n m7 O k=0/\υ ((w.alloc (γ #[σ ac n cc,.map (ς mb)] 117)).alloc (γ #[ι κ 5,τ tb,σ a2 n2 c2,σ a3 n3 c3,τ col,σ a5 n5 c5,σ a6 n6 c6,σ a7 n7 c7] 64)).heap.size ((w.alloc (γ #[σ ac n cc,.map (ς mb)] 117)).alloc (γ #[ι κ 5,τ tb,σ a2 n2 c2,σ a3 n3 c3,τ col,σ a5 n5 c5,σ a6 n6 c6,σ a7 n7 c7] 64)) wr) (λ_ _ _ i _=>n7 - (XX i).toNat)
 case atStart=>exact⟨0,XZ _,rfl,rfl,Xa _ _⟩
 case round=>
  obtain⟨k,hk,rfl,hso,hbr⟩:=hrel;have HSO:Hid (GE C n m7 O k=0):=hso;clear hso;have hbW:=AA hbU hbr;have q0:=AC hq0 hbr;have q1:=AC hq1 hbr;obtain⟨s0,s1⟩:wr.cell? ⟨w.heap.size,0,ν⟩=ς (σ ac n cc)/\wr.cell? ⟨w.heap.size,1,ν⟩=ς (.map (ς mb)):=⟨ε _ _ 0 _ _ _ q0,ε _ _ 1 _ _ _ q0⟩;obtain⟨-,-,-,-,-,-,qw,qo⟩:=Ak q1;by_cases hlt:k<n7
  ·
   obtain⟨bO,offO,ai,ci,rfl,d1,hIO,-⟩:=hO.later hbW k hlt;have hkn:(k:Int)<n7:=by omega
   obtain⟨hx1,hx2,hx3⟩:=CK (HEX.out k hlt);obtain⟨ek,ec,hck⟩:∃ ek ec,De C n (O k) (m7 k)=(ek,ec):=⟨_,_,rfl⟩;have HCK:=KN ac n cc C mb ai (m7 k) ci (O k) wr (hC.later hbW) (hP.later hbW) HDP.out hIO hx1 hx3;rw [hck] at HCK;have HNX:Hid (GE C n m7 O (k+1)=ec):=by show _=_;rw [GE,if_pos HSO.out,hck]
   clear hck hx3;by_cases he:ec=0
   ·
    subst he;go_wp2_with (go_at_call 163;refine HCK.mono ?_;rintro e w5 ⟨rfl,hb5⟩)
    go_roundw
    case rel=>exact⟨k+1,by omega,by go_num,HNX.out,AA hbr hb5⟩
    case measure=>simp [XX];omega
   ·
    have n0:(ec != 0)=true:=by simpa using he
    have HA2:Hid (JS C n m7 O n7 W n6=ec):=by
     show _=_
     have h1:GE C n m7 O n7=ec:=by rw [AaB (k:=k+1) (by rw [HNX.out];exact he) n7 (by omega),HNX.out]
     unfold JS;rw [h1,if_neg he]
    clear he;go_wp2_with (go_at_call 163;refine HCK.mono ?_;rintro e w5 ⟨rfl,hb5⟩)
    go_ret
    exact⟨by rw [HA2.out];rfl,AA hbW hb5⟩
  ·
   obtain rfl:k=n7:=by omega
   have HA2:Hid (JS C n m7 O k W n6=EO C n W n6):=by show _=_;unfold JS;rw [if_pos HSO.out]
   have HWH:=NQ ac n cc C mb a6 n6 c6 W wr (hC.later hbW) (hP.later hbW) HDP.out (hW.later hbW) HOK.out;go_wp2_with (go_at_call 164;refine HWH.mono ?_;rintro e w5 ⟨rfl,hb5⟩)
   go_ret
   exact⟨by rw [HA2.out];rfl,AA hbW hb5⟩
theorem IQ{d:Td}(h:D9 d=true):∀ k,k<d.n->Ah d.C (d.C k).s k=false:=λk hk=>by
 obtain⟨-,-,-,-,h5,-⟩:=Ft h;have:=Cw h5 hk;unfold BS at this;simp only [XV,Bool.not_eq_true'] at this
 exact this.2
def Iw(n:Nat)(T:Nat->Td)(D:St):Int×Int:=match Bn T D.tb n with
 | none=>(0,1)
 | some j=>((j:Int),JS (T j).C (T j).n D.m7 D.O D.n7 D.W D.n6)
theorem LB(a:Option Addr)(n c:Nat)(T:Nat->Td)(tb:ByteArray)(a2:Option Addr)(n2 c2:Nat)(a3:Option Addr)(n3 c3:Nat)(col:ByteArray)(a5:Option Addr)(n5 c5:Nat)(a6:Option Addr)(n6 c6:Nat)(a7:Option Addr)(n7 c7:Nat)(C:Nat->Clm)(V E W:Nat->Itm)(m7:Nat->Nat)(O:Nat->Nat->Itm)(w:ο)(hT:TL w a n T)(hS:SM w ⟨5,tb,n2,C,n3,V,col,n5,E,n6,W,n7,m7,O⟩ ⟨a2,c2,a3,c3,a5,c5,a6,c6,a7,c7⟩)(hn:n<=1048576)(hok:CT n T=true)(hos:AL ⟨5,tb,n2,C,n3,V,col,n5,E,n6,W,n7,m7,O⟩=true) :
 XR μ 55 #[χ #[σ a n c],χ #[ι κ 5,τ tb,σ a2 n2 c2,σ a3 n3 c3,τ col,σ a5 n5 c5,σ a6 n6 c6,σ a7 n7 c7]] w λe w'=>e=ρ (θ #[ι κ (Iw n T ⟨5,tb,n2,C,n3,V,col,n5,E,n6,W,n7,m7,O⟩).1,ι κ (Iw n T ⟨5,tb,n2,C,n3,V,col,n5,E,n6,W,n7,m7,O⟩).2])/\υ w.heap.size w w':=by
 obtain⟨h7a,h7b,h7c,h7d⟩:=Ja hos rfl;simp only at h7a h7b h7c h7d
 have HEX:Hid (∀ i,i<n7->Ag (O i) (m7 i)=true):=h7c;have HWH:Hid (AR W n6=true):=h7d;have HOK:Hid (CT n T=true):=hok;clear h7c h7d hok hos;have hbU:υ w.heap.size w ((w.alloc (γ #[σ a n c] 45)).alloc (γ #[ι κ 5,τ tb,σ a2 n2 c2,σ a3 n3 c3,τ col,σ a5 n5 c5,σ a6 n6 c6,σ a7 n7 c7] 64)):=AA (AE _ _) (AE _ _);have hq0:((w.alloc (γ #[σ a n c] 45)).alloc (γ #[ι κ 5,τ tb,σ a2 n2 c2,σ a3 n3 c3,τ col,σ a5 n5 c5,σ a6 n6 c6,σ a7 n7 c7] 64)).heap[w.heap.size]?=ς (γ #[σ a n c] 45 (0,0)):=AC (η w _) (AE _ _);have hq1:((w.alloc (γ #[σ a n c] 45)).alloc (γ #[ι κ 5,τ tb,σ a2 n2 c2,σ a3 n3 c3,τ col,σ a5 n5 c5,σ a6 n6 c6,σ a7 n7 c7] 64)).heap[w.heap.size+1]?=ς (γ #[ι κ 5,τ tb,σ a2 n2 c2,σ a3 n3 c3,τ col,σ a5 n5 c5,σ a6 n6 c6,σ a7 n7 c7] 64 (0,0)):=by
  have q:=η (w.alloc (γ #[σ a n c] 45)) (γ #[ι κ 5,τ tb,σ a2 n2 c2,σ a3 n3 c3,τ col,σ a5 n5 c5,σ a6 n6 c6,σ a7 n7 c7] 64);rw [ω] at q;exact q
 obtain⟨p0,-⟩:=AN hq0;obtain⟨-,p1,-⟩:=Ak hq1;have HF:=Vq a n c T tb ((w.alloc (γ #[σ a n c] 45)).alloc (γ #[ι κ 5,τ tb,σ a2 n2 c2,σ a3 n3 c3,τ col,σ a5 n5 c5,σ a6 n6 c6,σ a7 n7 c7] 64)) (hT.later hbU) hn HOK.out;rcases ht:Bn T tb n with _ | j
 ·
  have HA:Hid (Iw n T ⟨5,tb,n2,C,n3,V,col,n5,E,n6,W,n7,m7,O⟩=(0,1)):=by show _=_;unfold Iw;simp only;rw [ht]
  rw [ht] at HF;simp only [Option.isSome] at HF
  clear ht;go_enter Tryz.func55,Tryz.ntmps55
  go_wp2_with (go_at_call 116;refine HF.mono ?_;rintro e w1 ⟨i,rfl,-,-,hb1⟩)
  refine XL (Xg rfl _ _ _) rfl ⟨by rw [HA.out];rfl,AA hbU hb1⟩
 ·
  have hj:=(C9 ht).1;have hdj:=IQ ((DO HOK.out).2 j hj);have hNj:=Cd ((DO HOK.out).2 j hj);have HA:Hid (Iw n T ⟨5,tb,n2,C,n3,V,col,n5,E,n6,W,n7,m7,O⟩=((j:Int),JS (T j).C (T j).n m7 O n7 W n6)):=by show _=_;unfold Iw;simp only;rw [ht]
  rw [ht] at HF;simp only [Option.isSome] at HF
  clear ht;obtain⟨dn,hdn⟩:∃ x,(T j).n=x:=⟨_,rfl⟩;obtain⟨dC,hdC⟩:∃ x,(T j).C=x:=⟨_,rfl⟩;rw [hdn,hdC] at HA;have hn1:=hNj.n1;have hn0:=hNj.n0;rw [hdn] at hn1 hn0 hdj;rw [hdC] at hdj;have HDJ:Hid (∀ k,k<dn->Ah dC (dC k).s k=false):=hdj;have HDN:Hid ((T j).n=dn/\(T j).C=dC):=⟨hdn,hdC⟩;clear hdn hdC hdj hNj;have hjn:(j:Int)<n:=by omega
  have hj0:(0:Int)<=j:=by omega
  go_enter Tryz.func55,Tryz.ntmps55
  go_upto_region 4 with (go_at_call 116;refine HF.mono ?_;rintro e w1 ⟨i,rfl,-,hij,hb1⟩;obtain rfl:=hij j rfl)
  have hb10:=AA hbU hb1;have r0:=AC hq0 hb1;have r1:=AC hq1 hb1;obtain⟨bt,offt,ac,cc,ar,cr,rfl,-,e1,-,hC,-,-⟩:=hT.later hb10 i hj;rw [HDN.out.1] at e1 hC;rw [HDN.out.2] at hC;refine XO (S:=λx=>υ w1.heap.size w1 x) (by kernel_rfl) (CE _) (λjH=>?_);refine tk 0 (⟨ς 17,.move (δ 6),3,"l5_replay.go:180",#[],ν⟩:Oper) (λx jS=>by go_simp<;>rfl) jH ?_
  try simp only [zS]
  refine tk 1 (⟨ς 18,.fieldAddr 45 (δ 2) 0,0,"l5_replay.go:180",#[],ν⟩:Oper) (λx jS=>by go_simp<;>rfl) jH ?_
  try simp only [zS]
  refine tk 2 (⟨ς 19,.load 43 (δ 18),43,"l5_replay.go:180",#[⟨1,φ⟩],ν⟩:Oper) (λx jS=>by obtain⟨k0,-⟩:=AN (AC r0 jS);have k1:=AB jS e1;obtain⟨j0_,j1_,j2_,j3_,j4_,j5_,j6_,j7_⟩:=Ak (AC r1 jS);go_simp<;>rfl) jH ?_
  try simp only [zS]
  refine tk 3 (⟨ς 20,.move (δ 6),3,"l5_replay.go:180",#[],ν⟩:Oper) (λx jS=>by go_simp<;>rfl) jH ?_
  try simp only [zS]
  refine tk 4 (⟨ς 21,.indexAddr 43 (δ 19) (δ 20),0,"l5_replay.go:180",#[⟨2,φ⟩,⟨3,φ⟩],ν⟩:Oper) (λx jS=>by go_simp<;>rfl) jH ?_
  try simp only [zS]
  refine tk 5 (⟨ς 22,.fieldAddr 100 (δ 21) 1,0,"l5_replay.go:180",#[⟨4,φ⟩],ν⟩:Oper) (λx jS=>by go_simp<;>rfl) jH ?_
  try simp only [zS]
  refine tk 6 (⟨ς 23,.load 59 (δ 22),59,"l5_replay.go:180",#[⟨5,φ⟩],ν⟩:Oper) (λx jS=>by obtain⟨k0,-⟩:=AN (AC r0 jS);have k1:=AB jS e1;obtain⟨j0_,j1_,j2_,j3_,j4_,j5_,j6_,j7_⟩:=Ak (AC r1 jS);go_simp<;>rfl) jH ?_
  try simp only [zS]
  refine tk 8 (⟨ς 25,.load 64 (δ 3),64,"l5_replay.go:180",#[],ν⟩:Oper) (λx jS=>by obtain⟨k0,-⟩:=AN (AC r0 jS);have k1:=AB jS e1;obtain⟨j0_,j1_,j2_,j3_,j4_,j5_,j6_,j7_⟩:=Ak (AC r1 jS);go_simp<;>rfl) jH ?_
  try simp only [zS]
  refine rd 7 (⟨ς 24,.call ⟨.value (.func 56),#[δ 23],#[59]⟩,117,"l5_replay.go:180",#[⟨6,φ⟩],ν⟩:Oper) (λK hK=>?_);go_simp;refine(JF ac dn cc dC _ (hC.later jH) hn1).mono ?_;rintro e w2 ⟨rfl,hP2,hb2⟩;have hH2:=AA jH hb2;refine hK.out _ _ (hH2) (λjH=>?_);clear hK K;try simp only [zS]
  refine rd 9 (⟨ς 26,.call ⟨.value (.func 117),#[δ 24,δ 25],#[117,64]⟩,3,"l5_replay.go:180",#[⟨7,φ⟩,⟨8,φ⟩,⟨7,.chain⟩],ν⟩:Oper) (λK hK=>?_);go_simp;refine(NR ac dn cc dC _ tb a2 n2 c2 a3 n3 c3 col a5 n5 c5 a6 n6 c6 a7 n7 c7 W m7 O _ (hC.later jH) hP2 HDJ.out (hS.ou.later (AA hb10 jH)) (hS.wh.later (AA hb10 jH)) hS.l7 HEX.out HWH.out).mono ?_;rintro e w3 ⟨rfl,hb3⟩;refine hK.out _ _ (AA jH hb3) (λjH=>?_);clear hK K;try simp only [zS]
  refine tk 10 (⟨ς 4,.assign (δ 17),3,"l5_replay.go:180",#[⟨0,φ⟩,⟨9,.chain⟩,⟨0,ξ⟩,⟨1,.textOnly .lateStores⟩,⟨2,.textOnly .lateStores⟩,⟨3,.textOnly .lateStores⟩,⟨4,.textOnly .lateStores⟩,⟨5,.textOnly .lateStores⟩,⟨6,.textOnly .lateStores⟩,⟨7,.textOnly .lateStoresUnsure⟩,⟨8,.textOnly .lateStores⟩,⟨9,.textOnly .lateStoresUnsure⟩],ν⟩:Oper) (λx jS=>by go_simp<;>rfl) jH ?_
  try simp only [zS]
  refine tk 11 (⟨ς 5,.assign (δ 26),3,"l5_replay.go:180",#[⟨9,φ⟩,⟨10,.chain⟩,⟨0,ξ⟩,⟨1,ξ⟩,⟨2,ξ⟩,⟨3,ξ⟩,⟨4,ξ⟩,⟨5,ξ⟩,⟨6,ξ⟩,⟨7,ξ⟩,⟨8,ξ⟩,⟨9,ξ⟩,⟨10,ξ⟩],ν⟩:Oper) (λx jS=>by go_simp<;>rfl) jH ?_
  try simp only [zS]
  refine XW (by kernel_rfl) ?_ _;go_wp2;refine XL (Xg rfl _ _ _) rfl ⟨by rw [HA.out];rfl,AA hb10 jH⟩
