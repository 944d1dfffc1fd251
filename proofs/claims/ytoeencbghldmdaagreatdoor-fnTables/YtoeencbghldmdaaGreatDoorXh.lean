import Derived.Test.YtoeencbghldmdaaGreatDoorXg
open Go renaming Calls → VK, Value → VN, World → ο, cell_of_row → ε, frozen_of_row → ζ, heap_alloc_new → η, heap_setCell_same → π, wpAnyH_done → VP, wp_region_held_drew → VH
open Go.Ending renaming returned → ρ
open Go.IntKind renaming i64 → κ
open Go.Obj renaming cells → γ
open Go.Proofs.Tryz renaming prog → μ
open Go.RowKit renaming Below → υ, intOf → VQ
open Go.Value renaming agg → χ, int → ι, slice → σ, string → τ
open Go.World renaming size_alloc → ω, size_setCell → Ve
open Nat renaming le_refl → VD, le_trans → VX, zero_add → VM
open Option renaming none → ν, some → ς
open Option.some renaming inj → VF
open Or renaming inl → VV, inr → Vb
namespace Go.Proofs.YtoeencbghldmdaaGreatDoor
open Go.RowKit Go.Maps Go.WideMaps
set_option maxRecDepth 20000
set_option maxHeartbeats 16000000
def Ed(C:Nat->Clm)(n q:Nat)(E:Nat->Itm)(n5:Nat)(x:Rw):Rw:=(x.1,Ck x.2 q (Bv C n x.2 E n5))
def Ho(C:Nat->Clm)(n:Nat)(E:Nat->Itm)(n5:Nat)(x:Rw):Bool:=decide (200<(Bv C n x.2 E n5).s.size)
theorem Ea{w:ο}{b n:Nat}{C:Nat->Clm}{s:ByteArray}{q:Nat}(h:PlAt w b n C)(hdp:∀ k,k<n->AR C (C k).s k=false)(hq:BF C s n=ς q)(hs:s.size<=1048576):(Instr.lookup 75 (.map (ς b)) (τ s) false).run μ w=.ok (ι κ (q:Int)) w:=by
 have hkey:keyOf μ 9 (τ s)=ς (CQ s):=keyOf_string_mk Tryz.underlying9 (by unfold maxLen;omega);obtain⟨c,hrun,hat,-⟩:=World.ownsMap.lookup_int h Fk Tryz.underlying75 Tryz.underlying3 (IG _) hkey;rw [Jn hdp hq] at hat;obtain rfl:(q:Int)=c:=by simpa using hat
 exact hrun
theorem IW{w w':ο}{base e size n g cap:Nat}{xs:List VN}{r:Option Nat}(h:w.ownsRow base e size (σ (ς ⟨g,0,ν⟩) n cap) n xs)(hg:w.grownBy w' r)(hne:ς g≠r):w'.ownsRow base e size (σ (ς ⟨g,0,ν⟩) n cap) n xs:=by
 obtain⟨h1,h2 | ⟨g',cap',cur,e',h3,h4,h5⟩⟩:=h
 · exact⟨h1,VV h2⟩
 ·
  obtain⟨rfl,rfl⟩:g=g'/\cap=cap':=by simpa using e'
  exact⟨h1,Vb ⟨g,cap,cur,rfl,h3,Bl h4 hg hne,h5⟩⟩
theorem Tk(w:ο)(b i:Nat)(v:VN):w.grownBy (w.setCell ⟨b,i,ν⟩ v) (ς b):=⟨rfl,rfl,rfl,by rw [Ve];exact VD _,λk _ hne=>Below.heap_setCell _ _ _ _ (λe=>hne (by rw [e]))⟩
theorem Ln{F:Nat->Itm}{q:Nat}{y:Itm}:∀ {n:Nat},(∀ j,j<n->(F j).s.size<=200)->q<n->(200<CP (Ck F q y) n↔200<y.s.size):=by
 intro n;have low:∀ m,m<=q->(∀ j,j<m->(F j).s.size<=200)->CP (Ck F q y) m<=200:=by
  intro m;induction m with
  | zero=>intro _ _;simp [CP]
  | succ m ih=>
   intro hm hF;have h1:=ih (by omega) (λj hj=>hF j (by omega));have h2:=hF m (by omega);rw [CP,show Ck F q y m=F m from by unfold Ck;rw [if_neg (by omega)]]
   omega
 induction n with
 | zero=>intro _ h;omega
 | succ n ih=>
  intro hF hq;rw [CP];by_cases e:n=q
  ·
   subst e;have:=low n (VD _) (λj hj=>hF j (by omega));rw [show Ck F n y n=y from by unfold Ck;rw [if_pos rfl]]
   omega
  ·
   have h1:=ih (λj hj=>hF j (by omega)) (by omega);have h2:=hF n (by omega);rw [show Ck F q y n=F n from by unfold Ck;rw [if_neg e]]
   omega
def UpP(K:TypeId)(key:Rw->Lit)(mb:Nat)(L:List Ro)(X:List Rw)(f:Rw->Rw)(g:Rw->Bool)(w:ο)(e:Ending)(w':ο):Prop:=
 w.grownBy w' (ς mb)/\((X.any g=true/\e=.returned (.int .i64 6)/\KM K key w' mb L)∨(X.any g=false/\∃ Cs:List Ro,Cs.map Ro.x=X.map f/\(∀ r∈Cs,RoAt w' r/\w.heap.size<=r.b)/\(Cs.map Ro.b).Nodup/\e=.returned (.int .i64 (if (As key (Au key L X) Cs).1=true then 0 else 5))/\KM K key w' mb (As key (Au key L X) Cs).2))
theorem D8(key:Rw->Lit):∀ (X:List Rw) (L:List Ro),(Au key L X).length<=L.length
 | [],_=>VD _
 | _ :: X,L=>VX (D8 key X _) (Hj key L _)
theorem Jd{X:List Rw}{k:Nat}(h:k<X.length):X.take (k+1)=X.take k ++ [X.getD k r0]:=by
 rw [List.take_succ_eq_append_getElem h];simp [h]
theorem F7{A:List Ro}{r:Ro}{k:Nat}(h:A.length=k):(A ++ [r]).getD k o0=r:=by subst h;simp
theorem F8{A:List Ro}{r:Ro}{j:Nat}(h:j<A.length):(A ++ [r]).getD j o0=A.getD j o0:=by simp [List.getElem?_append_left h]
theorem RoAt.set{w:ο}{r:Ro}{b i:Nat}{v:VN}(h:RoAt w r)(hb:r.b≠b):RoAt (w.setCell ⟨b,i,ν⟩ v) r:=by
 obtain⟨⟨cur,h1,h2⟩,h3⟩:=h;refine⟨⟨cur,Af h1 (by omega),h2⟩,λj hj=>?_⟩;obtain⟨b',off,e,c0,c1,c2,hs⟩:=h3 j hj;injection e with e;injection e with e1 e2 e3;subst e1 e2;have hh:(w.setCell ⟨b,i,ν⟩ v).heap[r.b]?=w.heap[r.b]?:=Below.heap_setCell _ _ _ _ hb;exact⟨r.b,0,rfl,(World.cell?_of_block hh).trans c0,(World.cell?_of_block hh).trans c1,(World.cell?_of_block hh).trans c2,hs⟩
def RC(w4 w:ο)(r:Ro):Prop:=RoAt w r/\w4.heap.size<r.b/\r.b<w.heap.size
theorem RC.imp3{w4 w w':ο}{r:Ro}(h:RC w4 w r)(hb:υ w.heap.size w w'):RC w4 w' r:=⟨h.1.all (BlkC.below hb),h.2.1,Nat.lt_of_lt_of_le h.2.2 hb.size⟩
theorem RC.set{w4 w:ο}{r:Ro}{b i:Nat}{v:VN}(h:RC w4 w r)(hb:r.b≠b):RC w4 (w.setCell ⟨b,i,ν⟩ v) r:=⟨h.1.set hb,h.2.1,by rw [Ve];exact h.2.2⟩
theorem Js{w:ο}{G g cap n:Nat}{xs:List VN}(h:w.ownsRow G 60 3 (σ (ς ⟨g,0,ν⟩) n cap) n xs)(q:Nat)(y:Itm):∃ cur,(((w.setCell ⟨g,q * 3,ν⟩ (ι κ y.o)).setCell ⟨g,q * 3+1,ν⟩ (ι κ y.m)).setCell ⟨g,q * 3+2,ν⟩ (τ y.s)).heap[g]?=ς (γ cur 60 (0,0))/\n * 3<=cur.size:=by
 obtain⟨-,h | ⟨g',cap',cur,e,-,h1,h2,-,h3,-⟩⟩:=h
 · cases h.1
 ·
  obtain⟨rfl,rfl⟩:g=g'/\cap=cap':=by simpa using e
  exact⟨_,π _ _ _ _ _ _ (π _ _ _ _ _ _ (π _ _ _ _ _ _ h1)),by simp [h3];exact Nat.mul_le_mul_right 3 h2⟩
theorem TE(mb:Nat)(L:List Ro)(ac:Option Addr)(n cc:Nat)(C:Nat->Clm)(pb:Nat)(ar:Option Addr)(dr cr:Nat)(dm:Nat->Nat)(dR:Nat->Nat->Itm)(k0:Int)(tb:ByteArray)(a2:Option Addr)(n2 c2:Nat)(a3:Option Addr)(n3 c3:Nat)(col:ByteArray)(a5:Option Addr)(n5 c5:Nat)(a6:Option Addr)(n6 c6:Nat)(a7:Option Addr)(n7 c7:Nat)(E W:Nat->Itm)(q:Nat)(X:List Rw)(w:ο)
 (hM:KM 3 kI w mb L) (hP:PlAt w pb n C) (hdp:∀ k,k<n->AR C (C k).s k=false) (hR:OL w ar dr dm dR) (hE:IL w a5 n5 E) (hW:IL w a6 n6 W) (hok:AI W n6=true) (hcw:CM C n W n6=0) (hokE:AZ E n5=true) (hck:(ck C n E n5).2=0) (hq:BF C col n=ς q) (hcs:col.size<=1048576) (hN:Nice n dr dm dR) (hg:∀ k,k<dr->Bc n C (dR k)) (hX:C4 C n dm dR W n6 dr=X) (hLn:L.length<=1000) (hdr:dr<=1000)
 (hK1:∀ x∈X,keyOf μ 3 (ι κ (x.2 0).m)=ς (kI x)) (hK2:∀ x∈X,keyOf μ 3 (ι κ ((Ed C n q E n5 x).2 0).m)=ς (kI (Ed C n q E n5 x))) :
 VK μ 139 #[χ #[.map (ς mb),.func (.func 100) #[] #[]],χ #[σ ac n cc,.map (ς pb)],σ ar dr cr,χ #[ι κ k0,τ tb,σ a2 n2 c2,σ a3 n3 c3,τ col,σ a5 n5 c5,σ a6 n6 c6,σ a7 n7 c7]] w (UpP 3 kI mb L X (Ed C n q E n5) (Ho C n E n5) w):=by
 have HDP:Hid (∀ k,k<n->AR C (C k).s k=false):=hdp;have HQ:Hid (BF C col n=ς q):=hq;have HCK:Hid ((ck C n E n5).2=0):=hck;have hqn:=(Bz hq).1;obtain⟨he1,he2,he3⟩:=BX hokE;have hml:=hM.lt;have hn0:=hN.n0;have hn1:=hN.n1;have hXl:X.length<=dr:=by rw [←hX];exact DH
 have HXG:Hid (∀ x∈X,x.1=n/\Bc n C x.2):=by
  show ∀ x∈X,x.1=n/\Bc n C x.2
  rw [←hX];exact Ci (λj hj=>⟨hN.len j hj,hg j hj⟩)
 have hbU:υ w.heap.size w (((w.alloc (γ #[.map (ς mb),.func (.func 100) #[] #[]] 175)).alloc (γ #[σ ac n cc,.map (ς pb)] 77)).alloc (γ #[ι κ k0,τ tb,σ a2 n2 c2,σ a3 n3 c3,τ col,σ a5 n5 c5,σ a6 n6 c6,σ a7 n7 c7] 34)):=Ay _ _ _ _;have hs1:(w.alloc (γ #[.map (ς mb),.func (.func 100) #[] #[]] 175)).heap.size=w.heap.size+1:=ω _ _;have hs2:((w.alloc (γ #[.map (ς mb),.func (.func 100) #[] #[]] 175)).alloc (γ #[σ ac n cc,.map (ς pb)] 77)).heap.size=w.heap.size+1+1:=by rw [ω,hs1]
 have hs3:(((w.alloc (γ #[.map (ς mb),.func (.func 100) #[] #[]] 175)).alloc (γ #[σ ac n cc,.map (ς pb)] 77)).alloc (γ #[ι κ k0,τ tb,σ a2 n2 c2,σ a3 n3 c3,τ col,σ a5 n5 c5,σ a6 n6 c6,σ a7 n7 c7] 34)).heap.size=w.heap.size+1+1+1:=by rw [ω,hs2]
 have hq0:(((w.alloc (γ #[.map (ς mb),.func (.func 100) #[] #[]] 175)).alloc (γ #[σ ac n cc,.map (ς pb)] 77)).alloc (γ #[ι κ k0,τ tb,σ a2 n2 c2,σ a3 n3 c3,τ col,σ a5 n5 c5,σ a6 n6 c6,σ a7 n7 c7] 34)).heap[w.heap.size]?=ς (γ #[.map (ς mb),.func (.func 100) #[] #[]] 175 (0,0)):=AC (AC (η w _) (AD _ _)) (AD _ _);have hq1:(((w.alloc (γ #[.map (ς mb),.func (.func 100) #[] #[]] 175)).alloc (γ #[σ ac n cc,.map (ς pb)] 77)).alloc (γ #[ι κ k0,τ tb,σ a2 n2 c2,σ a3 n3 c3,τ col,σ a5 n5 c5,σ a6 n6 c6,σ a7 n7 c7] 34)).heap[w.heap.size+1]?=ς (γ #[σ ac n cc,.map (ς pb)] 77 (0,0)):=by
  have z:=AC (η (w.alloc (γ #[.map (ς mb),.func (.func 100) #[] #[]] 175)) (γ #[σ ac n cc,.map (ς pb)] 77)) (AD _ (γ #[ι κ k0,τ tb,σ a2 n2 c2,σ a3 n3 c3,τ col,σ a5 n5 c5,σ a6 n6 c6,σ a7 n7 c7] 34));rw [hs1] at z;exact z
 have hq2:(((w.alloc (γ #[.map (ς mb),.func (.func 100) #[] #[]] 175)).alloc (γ #[σ ac n cc,.map (ς pb)] 77)).alloc (γ #[ι κ k0,τ tb,σ a2 n2 c2,σ a3 n3 c3,τ col,σ a5 n5 c5,σ a6 n6 c6,σ a7 n7 c7] 34)).heap[w.heap.size+1+1]?=ς (γ #[ι κ k0,τ tb,σ a2 n2 c2,σ a3 n3 c3,τ col,σ a5 n5 c5,σ a6 n6 c6,σ a7 n7 c7] 34 (0,0)):=by
  have z:=η ((w.alloc (γ #[.map (ς mb),.func (.func 100) #[] #[]] 175)).alloc (γ #[σ ac n cc,.map (ς pb)] 77)) (γ #[ι κ k0,τ tb,σ a2 n2 c2,σ a3 n3 c3,τ col,σ a5 n5 c5,σ a6 n6 c6,σ a7 n7 c7] 34);rw [hs2] at z;exact z
 obtain⟨p1a,p1b⟩:=Ag hq1;obtain⟨-,-,-,-,-,-,p2g,-⟩:=AJ hq2;have HFT:=Er ac n cc C pb ar dr cr dm dR a6 n6 c6 W w (((w.alloc (γ #[.map (ς mb),.func (.func 100) #[] #[]] 175)).alloc (γ #[σ ac n cc,.map (ς pb)] 77)).alloc (γ #[ι κ k0,τ tb,σ a2 n2 c2,σ a3 n3 c3,τ col,σ a5 n5 c5,σ a6 n6 c6,σ a7 n7 c7] 34)) hbU (hP.later hbU) hdp hR (hW.later hbU) hok hcw hN hg;rw [hX] at HFT;have hmk:∀ w:ο,(Instr.makeSlice 43 (ι κ (X.length:Int)) (ι κ (X.length:Int))).run μ w=.ok (σ (ς ⟨w.heap.size,0,ν⟩) X.length X.length) (w.alloc (γ (madeCells #[σ ν 0 0] X.length) 30)):=λw=>by
  have z:=Ej (t:=43) Tryz.underlying43 Tryz.infoRow X.length (by omega) (by omega) w;rw [Nat.mul_one] at z;exact z
 clear hdp hok hcw hokE hck hq hN hg hX;go_enter Tryz.func139,Tryz.ntmps139
 go_wp2_with (go_at_call 80;refine HFT.mono ?_;rintro e w4 ⟨af,cf,rfl,hOD,hb4⟩)
 clear hmk HFT;have hs4:=hb4.size;rw [hs3] at hs4;have rr0:=AC hq0 hb4;have r1:=AC hq1 hb4;have r2:=AC hq2 hb4;have hbw4:=AA hbU hb4;have hP4:PlAt w4 pb n C:=hP.later hbw4;have hE4:=hE.later hbw4;have hM4:=hM.later hbw4;have hOL4:=hOD.ol;have hqM:=η w4 (γ (madeCells #[σ ν 0 0] X.length) 30);have hbM:=AD w4 (γ (madeCells #[σ ν 0 0] X.length) 30);clear hq0 hq1 hq2 hs1 hs2 hs3 hbU p1a p1b p2g hb4 hOD hE hR hW hP;go_loopw [11,12,23] (λ_ _ i wr=>∃ (k:Nat) (Cs:List Ro) (cur:Array VN),k<=X.length/\i=ι κ k/\Cs.map Ro.x=(X.take k).map (Ed C n q E n5)/\Cs.length=k/\(∀ r∈Cs,RC w4 wr r)/\(Cs.map Ro.b).Nodup/\wr.heap[w4.heap.size]?=ς (γ cur 30 (0,0))/\cur.size=X.length/\(∀ j,j<k->cur[j]?=ς (Cs.getD j o0).v)/\(X.take k).any (Ho C n E n5)=false/\υ w4.heap.size w4 wr/\w4.heap.size<wr.heap.size) (λ_ _ i _=>X.length - (VQ i).toNat)
 case atStart=>exact⟨0,[],_,by omega,rfl,by simp,rfl,by simp,by simp,hqM,CH _ _,λj hj=>by omega,by simp,hbM,by rw [ω];omega⟩
 case round=>
  obtain⟨k,Cs,cur,hk,rfl,hCx,hCl,hRC,hnd,hBC,hcz,hcj,hbig,hbr,hsr⟩:=hrel;have HCX:Hid (Cs.map Ro.x=(X.take k).map (Ed C n q E n5)):=hCx;have HBG:Hid ((X.take k).any (Ho C n E n5)=false):=hbig;have HND:Hid ((Cs.map Ro.b).Nodup):=hnd;have HCJ:Hid (∀ j,j<k->cur[j]?=ς (Cs.getD j o0).v):=hcj;clear hCx hbig hnd hcj hqM hbM;by_cases hlt:k<X.length
  rotate_left
  ·
   obtain rfl:k=X.length:=by omega
   have hg0:w.grownBy wr (ς mb):=GW (AA hbw4 hbr) _;have hMr:=hM4.later hbr;have hRS:RS wr (ς ⟨w4.heap.size,0,ν⟩) Cs:=λj hj=>⟨_,0,rfl,by rw [VM];exact(ε _ _ j _ _ _ hBC).trans (HCJ.out j (by omega))⟩;have hRL:RL wr Cs:=λr hr=>⟨(hRC r hr).1.2,by
    have h1:r.x∈Cs.map Ro.x:=List.mem_map_of_mem hr;rw [HCX.out] at h1;obtain⟨x,hx,e⟩:=List.mem_map.1 h1;rw [←e,show (Ed C n q E n5 x).1=x.1 from rfl,(HXG.out x (List.mem_of_mem_take hx)).1]
    exact hn0⟩
   have hKC:∀ r∈Cs,keyOf μ 3 (ι κ (r.x.2 0).m)=ς (kI r.x):=λr hr=>by
    have h1:r.x∈Cs.map Ro.x:=List.mem_map_of_mem hr;rw [HCX.out] at h1;obtain⟨x,hx,e⟩:=List.mem_map.1 h1;rw [←e];exact hK2 x (List.mem_of_mem_take hx)
   have hdl:(Au kI L X).length<=1000:=VX (D8 _ _ _) hLn;have HRM:=KC mb af cf L X wr hMr (hOL4.later hbr) (λx hx=>by rw [(HXG.out x hx).1];exact hn0) (by omega) hK1;obtain⟨m0,m1⟩:=Ag (AC rr0 hbr);have HR0:Hid (wr.heap[w.heap.size]?=ς (γ #[.map (ς mb),.func (.func 100) #[] #[]] 175 (0,0))):=AC rr0 hbr;have hend:∀ (w6 w7:ο) (bb:Bool),(As kI (Au kI L X) Cs).1=bb->KM 3 kI w6 mb (Au kI L X)->wr.grownBy w6 (ς mb)->KM 3 kI w7 mb (As kI (Au kI L X) Cs).2->w6.grownBy w7 (ς mb)->UpP 3 kI mb L X (Ed C n q E n5) (Ho C n E n5) w (ρ (ι κ (if bb=true then 0 else 5))) w7:=λw6 w7 bb hbb hM6 hg6 hM7 hg7=>by
    refine⟨(hg0.trans hg6).trans hg7,Vb ⟨by have z:=HBG.out;rwa [List.take_length] at z,Cs,by have z:=HCX.out;rwa [List.take_length] at z,λr hr=>⟨((hRC r hr).1.all (BlkC.km hMr hg6)).all (BlkC.km hM6 hg7),?_⟩,HND.out,by rw [hbb],hM7⟩⟩;have:=(hRC r hr).2.1;omega
   have HEND:Hid (∀ (w6 w7:ο) (bb:Bool),(As kI (Au kI L X) Cs).1=bb->KM 3 kI w6 mb (Au kI L X)->wr.grownBy w6 (ς mb)->KM 3 kI w7 mb (As kI (Au kI L X) Cs).2->w6.grownBy w7 (ς mb)->UpP 3 kI mb L X (Ed C n q E n5) (Ho C n E n5) w (ρ (ι κ (if bb=true then 0 else 5))) w7):=hend
   clear hend;rcases hA:(As kI (Au kI L X) Cs).1
   ·
    go_wp2_with (first | (go_at_call 140;refine HRM.mono ?_;rintro e w6 ⟨rfl,hM6,hg6⟩;have HR6:=A9 HR0.out hg6 (by omega);obtain⟨m2,m3⟩:=Ag HR6) | (go_at_call 137;have HAD:=GR mb (ς ⟨w4.heap.size,0,ν⟩) X.length (Au kI L X) Cs w6 hM6 (hRS.all (AllC.km hMr hg6)) (hRL.all (AllC.km hMr hg6)) (by omega) hKC;rw [hA,hCl] at HAD;refine HAD.mono ?_;rintro e w7 ⟨rfl,hM7,hg7⟩;clear HAD) | go_in)
    go_ret
    exact HEND.out _ _ _ hA hM6 hg6 hM7 hg7
   ·
    go_wp2_with (first | (go_at_call 140;refine HRM.mono ?_;rintro e w6 ⟨rfl,hM6,hg6⟩;have HR6:=A9 HR0.out hg6 (by omega);obtain⟨m2,m3⟩:=Ag HR6) | (go_at_call 137;have HAD:=GR mb (ς ⟨w4.heap.size,0,ν⟩) X.length (Au kI L X) Cs w6 hM6 (hRS.all (AllC.km hMr hg6)) (hRL.all (AllC.km hMr hg6)) (by omega) hKC;rw [hA,hCl] at HAD;refine HAD.mono ?_;rintro e w7 ⟨rfl,hM7,hg7⟩;clear HAD) | go_in)
    go_ret
    exact HEND.out _ _ _ hA hM6 hg6 hM7 hg7
  ·
   obtain⟨b,off,ai,ci,rfl,c0,hI,hsz⟩:=hOL4 k hlt;dsimp only at c0 hI hsz
   obtain⟨hx1,hxg⟩:=HXG.out _ (Ae (y:=r0) hlt);have HT:Hid (X.take (k+1)=X.take k ++ [X.getD k r0]):=Jd hlt;have HXM:Hid (X.getD k r0∈X):=Ae hlt;generalize X.getD k r0=x at c0 hI hsz hx1 hxg HT HXM;rw [hx1] at c0 hI;have hI4:IL w4 ai n x.2:=hI;have HGX:Hid (Bc n C x.2):=hxg;have hxs:∀ j,j<n->(x.2 j).s.size<=1048576:=λj hj=>by have:=(hxg j hj).1;omega
   have HX2:Hid (∀ j,j<n->(x.2 j).s.size<=200):=λj hj=>(hxg j hj).1;obtain⟨y,hy⟩:∃ y,Bv C n x.2 E n5=y:=⟨_,rfl⟩;have hys:y.s.size<=1048576:=by rw [←hy];exact Do HX2.out he3 he1 he2
   have HY:Hid (Bv C n x.2 E n5=y):=hy;have c0r:=AB hbr c0;have hq0:(0:Int)<=(q:Int):=by omega
   have hqi:(q:Int)<(n:Int):=by omega
   have hki:(k:Int)<(X.length:Int):=by omega
   have hCb:∀ r∈Cs,r.b<wr.heap.size:=λr hr=>(hRC r hr).2.2;obtain⟨old,hold⟩:∃ old,cur[k]?=ς old:=⟨cur[k]'(by omega),by simp [hcz,hlt]⟩;have d0_:=(ε _ _ k _ _ _ hBC).trans hold;clear hy hxg hI hx1 hsz;go_wp2_with (go_at_call 73;refine(EO ai n ci x.2 wr (hI4.later hbr) hn0 hn1).mono ?_;rintro e v1 ⟨g,cap,rfl,hOg,hb1⟩;have d1_:=AB hb1 d0_;have f1_:=ζ _ _ k _ _ (AC hBC hb1))
   have hgl:=hOg.lt g rfl;have hBC2:=π v1 _ k _ _ (σ (ς ⟨g,0,ν⟩) n cap) (AC hBC hb1);have hb2:υ w4.heap.size w4 (v1.setCell ⟨w4.heap.size,k,ν⟩ (σ (ς ⟨g,0,ν⟩) n cap)):=Bg (AA hbr hb1) (VD _);replace hOg:=IW hOg (Tk v1 w4.heap.size k (σ (ς ⟨g,0,ν⟩) n cap)) (by intro e;have:=VF e;omega);replace hRC:∀ r∈Cs,RC w4 (v1.setCell ⟨w4.heap.size,k,ν⟩ (σ (ς ⟨g,0,ν⟩) n cap)) r:=λr hr=>((hRC r hr).imp3 hb1).set (by have:=(hRC r hr).2.1;omega);have hc2k:(cur.setIfInBounds k (σ (ς ⟨g,0,ν⟩) n cap))[k]?=ς (σ (ς ⟨g,0,ν⟩) n cap):=by simp [hcz,hlt]
   have hc2z:(cur.setIfInBounds k (σ (ς ⟨g,0,ν⟩) n cap)).size=X.length:=by simp [hcz]
   have HCJ2:Hid (∀ j,j<k->(cur.setIfInBounds k (σ (ς ⟨g,0,ν⟩) n cap))[j]?=ς (Cs.getD j o0).v):=λj hj=>by rw [Array.getElem?_setIfInBounds_ne (by omega)];exact HCJ.out j hj
   generalize cur.setIfInBounds k (σ (ς ⟨g,0,ν⟩) n cap)=cur2 at hBC2 hc2k hc2z HCJ2;have hs2v:(v1.setCell ⟨w4.heap.size,k,ν⟩ (σ (ς ⟨g,0,ν⟩) n cap)).heap.size=v1.heap.size:=Ve _ _ _;generalize v1.setCell ⟨w4.heap.size,k,ν⟩ (σ (ς ⟨g,0,ν⟩) n cap)=v2 at hBC2 hb2 hOg hRC hs2v ⊢;clear d0_ d1_ f1_ hold old hBC hcz HCJ c0 c0r;refine VH (S:=λx_=>υ w4.heap.size w4 x_/\x_.heap[w4.heap.size]?=ς (γ cur2 30 (0,0))) (by kernel_rfl) (⟨AA hb2 (Ar _),hBC2⟩) (λjH=>?_);replace hOg:v2.drew.ownsRow _ _ _ _ _ _:=hOg;replace hRC:∀ r∈Cs,RC w4 v2.drew r:=hRC;generalize v2.drew=v at jH hOg hRC ⊢;refine tk 0 jH ?_;refine tk 1 jH ?_;try simp only [zS];refine tk 2 jH ?_;try simp only [zS];refine tk 3 jH ?_ (hy:=λx jS=>by obtain⟨s1,s2⟩:=jS;obtain⟨k1a,k1b⟩:=Ag (AC r1 s1);obtain⟨-,-,-,-,k2e,k2f,-,-⟩:=AJ (AC r2 s1);have kc:=(ε _ _ k _ _ _ s2).trans hc2k;have hlk:=Ea (hP4.later s1) HDP.out HQ.out hcs;go_simp<;>rfl)
   try simp only [zS]
   refine tk 4 jH ?_;try simp only [zS];refine tk 5 jH ?_ (hy:=λx jS=>by obtain⟨s1,s2⟩:=jS;obtain⟨k1a,k1b⟩:=Ag (AC r1 s1);obtain⟨-,-,-,-,k2e,k2f,-,-⟩:=AJ (AC r2 s1);have kc:=(ε _ _ k _ _ _ s2).trans hc2k;have hlk:=Ea (hP4.later s1) HDP.out HQ.out hcs;go_simp<;>rfl)
   try simp only [zS]
   refine tk 6 jH ?_;refine tk 7 jH ?_ (hy:=λx jS=>by obtain⟨s1,s2⟩:=jS;obtain⟨k1a,k1b⟩:=Ag (AC r1 s1);obtain⟨-,-,-,-,k2e,k2f,-,-⟩:=AJ (AC r2 s1);have kc:=(ε _ _ k _ _ _ s2).trans hc2k;have hlk:=Ea (hP4.later s1) HDP.out HQ.out hcs;go_simp<;>rfl)
   try simp only [zS]
   refine tk 8 jH ?_ (hy:=λx jS=>by obtain⟨s1,s2⟩:=jS;obtain⟨k1a,k1b⟩:=Ag (AC r1 s1);obtain⟨-,-,-,-,k2e,k2f,-,-⟩:=AJ (AC r2 s1);have kc:=(ε _ _ k _ _ _ s2).trans hc2k;have hlk:=Ea (hP4.later s1) HDP.out HQ.out hcs;go_simp<;>rfl)
   try simp only [zS]
   refine tk 9 jH ?_ (hy:=λx jS=>by obtain⟨s1,s2⟩:=jS;obtain⟨k1a,k1b⟩:=Ag (AC r1 s1);obtain⟨-,-,-,-,k2e,k2f,-,-⟩:=AJ (AC r2 s1);have kc:=(ε _ _ k _ _ _ s2).trans hc2k;have hlk:=Ea (hP4.later s1) HDP.out HQ.out hcs;go_simp<;>rfl)
   try simp only [zS]
   refine tk 10 jH ?_;try simp only [zS];refine tk 11 jH ?_ (hy:=λx jS=>by obtain⟨s1,s2⟩:=jS;obtain⟨k1a,k1b⟩:=Ag (AC r1 s1);obtain⟨-,-,-,-,k2e,k2f,-,-⟩:=AJ (AC r2 s1);have kc:=(ε _ _ k _ _ _ s2).trans hc2k;have hlk:=Ea (hP4.later s1) HDP.out HQ.out hcs;go_simp<;>rfl)
   try simp only [zS]
   refine tk 12 jH ?_
   try simp only [zS]
   refine rd 13 (λK hK=>?_);have HV:=Gj ac n cc C pb ai ci x.2 a5 n5 c5 E v (hP4.later jH.1) HDP.out (hI4.later jH.1) (hE4.later jH.1) he1 he3 HCK.out HGX.out;rw [HY.out] at HV;go_simp;refine HV.mono ?_;rintro e v3 ⟨rfl,hb3⟩;clear HV;replace hOg:=AF hOg hb3;replace hRC:=λr hr=>(hRC r hr).imp3 hb3;refine hK.out _ _ ⟨AA jH.1 hb3,AC jH.2 hb3⟩ (λjH=>?_);clear hK K;try simp only [zS]
   refine tk 14 jH ?_
   try simp only [zS]
   refine rd 15 (λK hK=>?_);obtain⟨y0_,y1_,y2_⟩:=Dv (EK hOg hxs) hqn;obtain⟨fz0,fz1,fz2⟩:=FY hOg (q * 3);have hILY:IL (((v3.setCell ⟨g,q * 3,ν⟩ (ι κ y.o)).setCell ⟨g,q * 3+1,ν⟩ (ι κ y.m)).setCell ⟨g,q * 3+2,ν⟩ (τ y.s)) (ς ⟨g,0,ν⟩) n (Ck x.2 q y):=Gh hOg hxs hys hqn;have hbkY:=Js hOg q y;go_simp;refine hK.out _ _ ⟨Bg (Bg (Bg jH.1 (by omega)) (by omega)) (by omega),Af (Af (Af jH.2 (by omega)) (by omega)) (by omega)⟩ (λjH=>?_);clear hK K;try simp only [Act.put]
   refine VP (by kernel_rfl) ?_ _;have hRCY:∀ r∈Cs,RC w4 (((v3.setCell ⟨g,q * 3,ν⟩ (ι κ y.o)).setCell ⟨g,q * 3+1,ν⟩ (ι κ y.m)).setCell ⟨g,q * 3+2,ν⟩ (τ y.s)) r:=λr hr=>(((hRC r hr).set (by have:=hCb r hr;omega)).set (by have:=hCb r hr;omega)).set (by have:=hCb r hr;omega);have hsY:(((v3.setCell ⟨g,q * 3,ν⟩ (ι κ y.o)).setCell ⟨g,q * 3+1,ν⟩ (ι κ y.m)).setCell ⟨g,q * 3+2,ν⟩ (τ y.s)).heap.size=v3.heap.size:=by rw [Ve,Ve,Ve]
   have hglY:=hOg.lt g rfl;generalize (((v3.setCell ⟨g,q * 3,ν⟩ (ι κ y.o)).setCell ⟨g,q * 3+1,ν⟩ (ι κ y.m)).setCell ⟨g,q * 3+2,ν⟩ (τ y.s))=v5 at hILY hbkY jH hRCY hsY ⊢;obtain⟨hb5,hBC5⟩:=jH;have kc5:=(ε _ _ k _ _ _ hBC5).trans hc2k;have HL:=Ha (ς ⟨g,0,ν⟩) n cap (Ck x.2 q y) v5 hILY hn1;have hlon:=Ln (q:=q) (y:=y) HX2.out hqn;have hRoY:RoAt v5 ⟨g,cap,(n,Ck x.2 q y)⟩:=⟨hbkY,hILY⟩;have HCF:Hid (Ed C n q E n5 x=(n,Ck x.2 q y)):=by show _=_;unfold Ed;rw [HY.out,HXG.out x HXM.out |>.1]
   have HBF:Hid (Ho C n E n5 x=decide (200<y.s.size)):=by show _=_;unfold Ho;rw [HY.out]
   by_cases hbg:200<y.s.size
   ·
    have hl2:=hlon.2 hbg;have hl:(200:Int)<(CP (Ck x.2 q y) n:Int):=by omega
    generalize CP (Ck x.2 q y) n=ln at HL hl;clear hlon hl2;go_wp2_with (go_at_call 82;refine HL.mono ?_;rintro e v6 ⟨rfl,hb6⟩)
    go_ret
    refine⟨GW (AA hbw4 (AA hb5 hb6)) _,VV ⟨?_,rfl,hM4.later (AA hb5 hb6)⟩⟩;exact List.any_eq_true.2 ⟨x,HXM.out,by rw [HBF.out];simpa using hbg⟩
   ·
    have hl2:¬200<CP (Ck x.2 q y) n:=λz=>hbg (hlon.1 z);have hl:¬(200:Int)<(CP (Ck x.2 q y) n:Int):=by omega
    generalize CP (Ck x.2 q y) n=ln at HL hl;clear hlon hl2;go_wp2_with (go_at_call 82;refine HL.mono ?_;rintro e v6 ⟨rfl,hb6⟩)
    go_roundw
    case rel=>exact⟨k+1,Cs ++ [⟨g,cap,(n,Ck x.2 q y)⟩],cur2,by omega,by go_num,by rw [HT.out,List.map_append,List.map_append,HCX.out,List.map_singleton,List.map_singleton,HCF.out],by simp [hCl],λr hr=>by
     rcases List.mem_append.1 hr with h | h
     · exact(hRCY r h).imp3 hb6
     · rw [List.mem_singleton] at h;subst h;exact⟨hRoY.all (BlkC.below hb6),by show w4.heap.size<g;omega,by show g<_;have:=hb6.size;omega⟩,by
     rw [List.map_append,List.nodup_append];refine⟨HND.out,by simp,λa ha b hb=>?_⟩;obtain⟨r,hr,rfl⟩:=List.mem_map.1 ha;have h1:=hCb r hr;have h2:b=g:=by simpa using hb
     omega,AC hBC5 hb6,hc2z,λj hj=>by
     by_cases e:j=k
     · subst e;rw [hc2k,F7 hCl];rfl
     · rw [HCJ2.out j (by omega),F8 (by omega)],by rw [HT.out,List.any_append,HBG.out];simp [HBF.out,hbg],AA hb5 hb6,by have:=hb6.size;omega⟩
    case measure=>simp [VQ];omega
theorem TD(mb:Nat)(L:List Ro)(ac:Option Addr)(n cc:Nat)(C:Nat->Clm)(pb:Nat)(ar:Option Addr)(dr cr:Nat)(dm:Nat->Nat)(dR:Nat->Nat->Itm)(k0:Int)(tb:ByteArray)(a2:Option Addr)(n2 c2:Nat)(a3:Option Addr)(n3 c3:Nat)(col:ByteArray)(a5:Option Addr)(n5 c5:Nat)(a6:Option Addr)(n6 c6:Nat)(a7:Option Addr)(n7 c7:Nat)(E W:Nat->Itm)(q:Nat)(X:List Rw)(w:ο)
 (hM:KM 9 kS w mb L) (hP:PlAt w pb n C) (hdp:∀ k,k<n->AR C (C k).s k=false) (hR:OL w ar dr dm dR) (hE:IL w a5 n5 E) (hW:IL w a6 n6 W) (hok:AI W n6=true) (hcw:CM C n W n6=0) (hokE:AZ E n5=true) (hck:(ck C n E n5).2=0) (hq:BF C col n=ς q) (hcs:col.size<=1048576) (hN:Nice n dr dm dR) (hg:∀ k,k<dr->Bc n C (dR k)) (hX:C4 C n dm dR W n6 dr=X) (hLn:L.length<=1000) (hdr:dr<=1000)
 (hK1:∀ x∈X,keyOf μ 9 (τ (x.2 0).s)=ς (kS x)) (hK2:∀ x∈X,keyOf μ 9 (τ ((Ed C n q E n5 x).2 0).s)=ς (kS (Ed C n q E n5 x))) :
 VK μ 144 #[χ #[.map (ς mb),.func (.func 102) #[] #[]],χ #[σ ac n cc,.map (ς pb)],σ ar dr cr,χ #[ι κ k0,τ tb,σ a2 n2 c2,σ a3 n3 c3,τ col,σ a5 n5 c5,σ a6 n6 c6,σ a7 n7 c7]] w (UpP 9 kS mb L X (Ed C n q E n5) (Ho C n E n5) w):=by
 have HDP:Hid (∀ k,k<n->AR C (C k).s k=false):=hdp;have HQ:Hid (BF C col n=ς q):=hq;have HCK:Hid ((ck C n E n5).2=0):=hck;have hqn:=(Bz hq).1;obtain⟨he1,he2,he3⟩:=BX hokE;have hml:=hM.lt;have hn0:=hN.n0;have hn1:=hN.n1;have hXl:X.length<=dr:=by rw [←hX];exact DH
 have HXG:Hid (∀ x∈X,x.1=n/\Bc n C x.2):=by
  show ∀ x∈X,x.1=n/\Bc n C x.2
  rw [←hX];exact Ci (λj hj=>⟨hN.len j hj,hg j hj⟩)
 have hbU:υ w.heap.size w (((w.alloc (γ #[.map (ς mb),.func (.func 102) #[] #[]] 182)).alloc (γ #[σ ac n cc,.map (ς pb)] 77)).alloc (γ #[ι κ k0,τ tb,σ a2 n2 c2,σ a3 n3 c3,τ col,σ a5 n5 c5,σ a6 n6 c6,σ a7 n7 c7] 34)):=Ay _ _ _ _;have hs1:(w.alloc (γ #[.map (ς mb),.func (.func 102) #[] #[]] 182)).heap.size=w.heap.size+1:=ω _ _;have hs2:((w.alloc (γ #[.map (ς mb),.func (.func 102) #[] #[]] 182)).alloc (γ #[σ ac n cc,.map (ς pb)] 77)).heap.size=w.heap.size+1+1:=by rw [ω,hs1]
 have hs3:(((w.alloc (γ #[.map (ς mb),.func (.func 102) #[] #[]] 182)).alloc (γ #[σ ac n cc,.map (ς pb)] 77)).alloc (γ #[ι κ k0,τ tb,σ a2 n2 c2,σ a3 n3 c3,τ col,σ a5 n5 c5,σ a6 n6 c6,σ a7 n7 c7] 34)).heap.size=w.heap.size+1+1+1:=by rw [ω,hs2]
 have hq0:(((w.alloc (γ #[.map (ς mb),.func (.func 102) #[] #[]] 182)).alloc (γ #[σ ac n cc,.map (ς pb)] 77)).alloc (γ #[ι κ k0,τ tb,σ a2 n2 c2,σ a3 n3 c3,τ col,σ a5 n5 c5,σ a6 n6 c6,σ a7 n7 c7] 34)).heap[w.heap.size]?=ς (γ #[.map (ς mb),.func (.func 102) #[] #[]] 182 (0,0)):=AC (AC (η w _) (AD _ _)) (AD _ _);have hq1:(((w.alloc (γ #[.map (ς mb),.func (.func 102) #[] #[]] 182)).alloc (γ #[σ ac n cc,.map (ς pb)] 77)).alloc (γ #[ι κ k0,τ tb,σ a2 n2 c2,σ a3 n3 c3,τ col,σ a5 n5 c5,σ a6 n6 c6,σ a7 n7 c7] 34)).heap[w.heap.size+1]?=ς (γ #[σ ac n cc,.map (ς pb)] 77 (0,0)):=by
  have z:=AC (η (w.alloc (γ #[.map (ς mb),.func (.func 102) #[] #[]] 182)) (γ #[σ ac n cc,.map (ς pb)] 77)) (AD _ (γ #[ι κ k0,τ tb,σ a2 n2 c2,σ a3 n3 c3,τ col,σ a5 n5 c5,σ a6 n6 c6,σ a7 n7 c7] 34));rw [hs1] at z;exact z
 have hq2:(((w.alloc (γ #[.map (ς mb),.func (.func 102) #[] #[]] 182)).alloc (γ #[σ ac n cc,.map (ς pb)] 77)).alloc (γ #[ι κ k0,τ tb,σ a2 n2 c2,σ a3 n3 c3,τ col,σ a5 n5 c5,σ a6 n6 c6,σ a7 n7 c7] 34)).heap[w.heap.size+1+1]?=ς (γ #[ι κ k0,τ tb,σ a2 n2 c2,σ a3 n3 c3,τ col,σ a5 n5 c5,σ a6 n6 c6,σ a7 n7 c7] 34 (0,0)):=by
  have z:=η ((w.alloc (γ #[.map (ς mb),.func (.func 102) #[] #[]] 182)).alloc (γ #[σ ac n cc,.map (ς pb)] 77)) (γ #[ι κ k0,τ tb,σ a2 n2 c2,σ a3 n3 c3,τ col,σ a5 n5 c5,σ a6 n6 c6,σ a7 n7 c7] 34);rw [hs2] at z;exact z
 obtain⟨p1a,p1b⟩:=Ag hq1;obtain⟨-,-,-,-,-,-,p2g,-⟩:=AJ hq2;have HFT:=Er ac n cc C pb ar dr cr dm dR a6 n6 c6 W w (((w.alloc (γ #[.map (ς mb),.func (.func 102) #[] #[]] 182)).alloc (γ #[σ ac n cc,.map (ς pb)] 77)).alloc (γ #[ι κ k0,τ tb,σ a2 n2 c2,σ a3 n3 c3,τ col,σ a5 n5 c5,σ a6 n6 c6,σ a7 n7 c7] 34)) hbU (hP.later hbU) hdp hR (hW.later hbU) hok hcw hN hg;rw [hX] at HFT;have hmk:∀ w:ο,(Instr.makeSlice 43 (ι κ (X.length:Int)) (ι κ (X.length:Int))).run μ w=.ok (σ (ς ⟨w.heap.size,0,ν⟩) X.length X.length) (w.alloc (γ (madeCells #[σ ν 0 0] X.length) 30)):=λw=>by
  have z:=Ej (t:=43) Tryz.underlying43 Tryz.infoRow X.length (by omega) (by omega) w;rw [Nat.mul_one] at z;exact z
 clear hdp hok hcw hokE hck hq hN hg hX;go_enter Tryz.func144,Tryz.ntmps144
 go_wp2_with (go_at_call 80;refine HFT.mono ?_;rintro e w4 ⟨af,cf,rfl,hOD,hb4⟩)
 clear hmk HFT;have hs4:=hb4.size;rw [hs3] at hs4;have rr0:=AC hq0 hb4;have r1:=AC hq1 hb4;have r2:=AC hq2 hb4;have hbw4:=AA hbU hb4;have hP4:PlAt w4 pb n C:=hP.later hbw4;have hE4:=hE.later hbw4;have hM4:=hM.later hbw4;have hOL4:=hOD.ol;have hqM:=η w4 (γ (madeCells #[σ ν 0 0] X.length) 30);have hbM:=AD w4 (γ (madeCells #[σ ν 0 0] X.length) 30);clear hq0 hq1 hq2 hs1 hs2 hs3 hbU p1a p1b p2g hb4 hOD hE hR hW hP;go_loopw [11,12,23] (λ_ _ i wr=>∃ (k:Nat) (Cs:List Ro) (cur:Array VN),k<=X.length/\i=ι κ k/\Cs.map Ro.x=(X.take k).map (Ed C n q E n5)/\Cs.length=k/\(∀ r∈Cs,RC w4 wr r)/\(Cs.map Ro.b).Nodup/\wr.heap[w4.heap.size]?=ς (γ cur 30 (0,0))/\cur.size=X.length/\(∀ j,j<k->cur[j]?=ς (Cs.getD j o0).v)/\(X.take k).any (Ho C n E n5)=false/\υ w4.heap.size w4 wr/\w4.heap.size<wr.heap.size) (λ_ _ i _=>X.length - (VQ i).toNat)
 case atStart=>exact⟨0,[],_,by omega,rfl,by simp,rfl,by simp,by simp,hqM,CH _ _,λj hj=>by omega,by simp,hbM,by rw [ω];omega⟩
 case round=>
  obtain⟨k,Cs,cur,hk,rfl,hCx,hCl,hRC,hnd,hBC,hcz,hcj,hbig,hbr,hsr⟩:=hrel;have HCX:Hid (Cs.map Ro.x=(X.take k).map (Ed C n q E n5)):=hCx;have HBG:Hid ((X.take k).any (Ho C n E n5)=false):=hbig;have HND:Hid ((Cs.map Ro.b).Nodup):=hnd;have HCJ:Hid (∀ j,j<k->cur[j]?=ς (Cs.getD j o0).v):=hcj;clear hCx hbig hnd hcj hqM hbM;by_cases hlt:k<X.length
  rotate_left
  ·
   obtain rfl:k=X.length:=by omega
   have hg0:w.grownBy wr (ς mb):=GW (AA hbw4 hbr) _;have hMr:=hM4.later hbr;have hRS:RS wr (ς ⟨w4.heap.size,0,ν⟩) Cs:=λj hj=>⟨_,0,rfl,by rw [VM];exact(ε _ _ j _ _ _ hBC).trans (HCJ.out j (by omega))⟩;have hRL:RL wr Cs:=λr hr=>⟨(hRC r hr).1.2,by
    have h1:r.x∈Cs.map Ro.x:=List.mem_map_of_mem hr;rw [HCX.out] at h1;obtain⟨x,hx,e⟩:=List.mem_map.1 h1;rw [←e,show (Ed C n q E n5 x).1=x.1 from rfl,(HXG.out x (List.mem_of_mem_take hx)).1]
    exact hn0⟩
   have hKC:∀ r∈Cs,keyOf μ 9 (τ (r.x.2 0).s)=ς (kS r.x):=λr hr=>by
    have h1:r.x∈Cs.map Ro.x:=List.mem_map_of_mem hr;rw [HCX.out] at h1;obtain⟨x,hx,e⟩:=List.mem_map.1 h1;rw [←e];exact hK2 x (List.mem_of_mem_take hx)
   have hdl:(Au kS L X).length<=1000:=VX (D8 _ _ _) hLn;have HRM:=KB mb af cf L X wr hMr (hOL4.later hbr) (λx hx=>by rw [(HXG.out x hx).1];exact hn0) (by omega) hK1;obtain⟨m0,m1⟩:=Ag (AC rr0 hbr);have HR0:Hid (wr.heap[w.heap.size]?=ς (γ #[.map (ς mb),.func (.func 102) #[] #[]] 182 (0,0))):=AC rr0 hbr;have hend:∀ (w6 w7:ο) (bb:Bool),(As kS (Au kS L X) Cs).1=bb->KM 9 kS w6 mb (Au kS L X)->wr.grownBy w6 (ς mb)->KM 9 kS w7 mb (As kS (Au kS L X) Cs).2->w6.grownBy w7 (ς mb)->UpP 9 kS mb L X (Ed C n q E n5) (Ho C n E n5) w (ρ (ι κ (if bb=true then 0 else 5))) w7:=λw6 w7 bb hbb hM6 hg6 hM7 hg7=>by
    refine⟨(hg0.trans hg6).trans hg7,Vb ⟨by have z:=HBG.out;rwa [List.take_length] at z,Cs,by have z:=HCX.out;rwa [List.take_length] at z,λr hr=>⟨((hRC r hr).1.all (BlkC.km hMr hg6)).all (BlkC.km hM6 hg7),?_⟩,HND.out,by rw [hbb],hM7⟩⟩;have:=(hRC r hr).2.1;omega
   have HEND:Hid (∀ (w6 w7:ο) (bb:Bool),(As kS (Au kS L X) Cs).1=bb->KM 9 kS w6 mb (Au kS L X)->wr.grownBy w6 (ς mb)->KM 9 kS w7 mb (As kS (Au kS L X) Cs).2->w6.grownBy w7 (ς mb)->UpP 9 kS mb L X (Ed C n q E n5) (Ho C n E n5) w (ρ (ι κ (if bb=true then 0 else 5))) w7):=hend
   clear hend;rcases hA:(As kS (Au kS L X) Cs).1
   ·
    go_wp2_with (first | (go_at_call 145;refine HRM.mono ?_;rintro e w6 ⟨rfl,hM6,hg6⟩;have HR6:=A9 HR0.out hg6 (by omega);obtain⟨m2,m3⟩:=Ag HR6) | (go_at_call 142;have HAD:=GQ mb (ς ⟨w4.heap.size,0,ν⟩) X.length (Au kS L X) Cs w6 hM6 (hRS.all (AllC.km hMr hg6)) (hRL.all (AllC.km hMr hg6)) (by omega) hKC;rw [hA,hCl] at HAD;refine HAD.mono ?_;rintro e w7 ⟨rfl,hM7,hg7⟩;clear HAD) | go_in)
    go_ret
    exact HEND.out _ _ _ hA hM6 hg6 hM7 hg7
   ·
    go_wp2_with (first | (go_at_call 145;refine HRM.mono ?_;rintro e w6 ⟨rfl,hM6,hg6⟩;have HR6:=A9 HR0.out hg6 (by omega);obtain⟨m2,m3⟩:=Ag HR6) | (go_at_call 142;have HAD:=GQ mb (ς ⟨w4.heap.size,0,ν⟩) X.length (Au kS L X) Cs w6 hM6 (hRS.all (AllC.km hMr hg6)) (hRL.all (AllC.km hMr hg6)) (by omega) hKC;rw [hA,hCl] at HAD;refine HAD.mono ?_;rintro e w7 ⟨rfl,hM7,hg7⟩;clear HAD) | go_in)
    go_ret
    exact HEND.out _ _ _ hA hM6 hg6 hM7 hg7
  ·
   obtain⟨b,off,ai,ci,rfl,c0,hI,hsz⟩:=hOL4 k hlt;dsimp only at c0 hI hsz
   obtain⟨hx1,hxg⟩:=HXG.out _ (Ae (y:=r0) hlt);have HT:Hid (X.take (k+1)=X.take k ++ [X.getD k r0]):=Jd hlt;have HXM:Hid (X.getD k r0∈X):=Ae hlt;generalize X.getD k r0=x at c0 hI hsz hx1 hxg HT HXM;rw [hx1] at c0 hI;have hI4:IL w4 ai n x.2:=hI;have HGX:Hid (Bc n C x.2):=hxg;have hxs:∀ j,j<n->(x.2 j).s.size<=1048576:=λj hj=>by have:=(hxg j hj).1;omega
   have HX2:Hid (∀ j,j<n->(x.2 j).s.size<=200):=λj hj=>(hxg j hj).1;obtain⟨y,hy⟩:∃ y,Bv C n x.2 E n5=y:=⟨_,rfl⟩;have hys:y.s.size<=1048576:=by rw [←hy];exact Do HX2.out he3 he1 he2
   have HY:Hid (Bv C n x.2 E n5=y):=hy;have c0r:=AB hbr c0;have hq0:(0:Int)<=(q:Int):=by omega
   have hqi:(q:Int)<(n:Int):=by omega
   have hki:(k:Int)<(X.length:Int):=by omega
   have hCb:∀ r∈Cs,r.b<wr.heap.size:=λr hr=>(hRC r hr).2.2;obtain⟨old,hold⟩:∃ old,cur[k]?=ς old:=⟨cur[k]'(by omega),by simp [hcz,hlt]⟩;have d0_:=(ε _ _ k _ _ _ hBC).trans hold;clear hy hxg hI hx1 hsz;go_wp2_with (go_at_call 73;refine(EO ai n ci x.2 wr (hI4.later hbr) hn0 hn1).mono ?_;rintro e v1 ⟨g,cap,rfl,hOg,hb1⟩;have d1_:=AB hb1 d0_;have f1_:=ζ _ _ k _ _ (AC hBC hb1))
   have hgl:=hOg.lt g rfl;have hBC2:=π v1 _ k _ _ (σ (ς ⟨g,0,ν⟩) n cap) (AC hBC hb1);have hb2:υ w4.heap.size w4 (v1.setCell ⟨w4.heap.size,k,ν⟩ (σ (ς ⟨g,0,ν⟩) n cap)):=Bg (AA hbr hb1) (VD _);replace hOg:=IW hOg (Tk v1 w4.heap.size k (σ (ς ⟨g,0,ν⟩) n cap)) (by intro e;have:=VF e;omega);replace hRC:∀ r∈Cs,RC w4 (v1.setCell ⟨w4.heap.size,k,ν⟩ (σ (ς ⟨g,0,ν⟩) n cap)) r:=λr hr=>((hRC r hr).imp3 hb1).set (by have:=(hRC r hr).2.1;omega);have hc2k:(cur.setIfInBounds k (σ (ς ⟨g,0,ν⟩) n cap))[k]?=ς (σ (ς ⟨g,0,ν⟩) n cap):=by simp [hcz,hlt]
   have hc2z:(cur.setIfInBounds k (σ (ς ⟨g,0,ν⟩) n cap)).size=X.length:=by simp [hcz]
   have HCJ2:Hid (∀ j,j<k->(cur.setIfInBounds k (σ (ς ⟨g,0,ν⟩) n cap))[j]?=ς (Cs.getD j o0).v):=λj hj=>by rw [Array.getElem?_setIfInBounds_ne (by omega)];exact HCJ.out j hj
   generalize cur.setIfInBounds k (σ (ς ⟨g,0,ν⟩) n cap)=cur2 at hBC2 hc2k hc2z HCJ2;have hs2v:(v1.setCell ⟨w4.heap.size,k,ν⟩ (σ (ς ⟨g,0,ν⟩) n cap)).heap.size=v1.heap.size:=Ve _ _ _;generalize v1.setCell ⟨w4.heap.size,k,ν⟩ (σ (ς ⟨g,0,ν⟩) n cap)=v2 at hBC2 hb2 hOg hRC hs2v ⊢;clear d0_ d1_ f1_ hold old hBC hcz HCJ c0 c0r;refine VH (S:=λx_=>υ w4.heap.size w4 x_/\x_.heap[w4.heap.size]?=ς (γ cur2 30 (0,0))) (by kernel_rfl) (⟨AA hb2 (Ar _),hBC2⟩) (λjH=>?_);replace hOg:v2.drew.ownsRow _ _ _ _ _ _:=hOg;replace hRC:∀ r∈Cs,RC w4 v2.drew r:=hRC;generalize v2.drew=v at jH hOg hRC ⊢;refine tk 0 jH ?_;try simp only [zS];refine tk 1 jH ?_;try simp only [zS];refine tk 2 jH ?_;refine tk 3 jH ?_ (hy:=λx jS=>by obtain⟨s1,s2⟩:=jS;obtain⟨k1a,k1b⟩:=Ag (AC r1 s1);obtain⟨-,-,-,-,k2e,k2f,-,-⟩:=AJ (AC r2 s1);have kc:=(ε _ _ k _ _ _ s2).trans hc2k;have hlk:=Ea (hP4.later s1) HDP.out HQ.out hcs;go_simp<;>rfl)
   try simp only [zS]
   refine tk 4 jH ?_;try simp only [zS];refine tk 5 jH ?_ (hy:=λx jS=>by obtain⟨s1,s2⟩:=jS;obtain⟨k1a,k1b⟩:=Ag (AC r1 s1);obtain⟨-,-,-,-,k2e,k2f,-,-⟩:=AJ (AC r2 s1);have kc:=(ε _ _ k _ _ _ s2).trans hc2k;have hlk:=Ea (hP4.later s1) HDP.out HQ.out hcs;go_simp<;>rfl)
   try simp only [zS]
   refine tk 6 jH ?_;try simp only [zS];refine tk 7 jH ?_ (hy:=λx jS=>by obtain⟨s1,s2⟩:=jS;obtain⟨k1a,k1b⟩:=Ag (AC r1 s1);obtain⟨-,-,-,-,k2e,k2f,-,-⟩:=AJ (AC r2 s1);have kc:=(ε _ _ k _ _ _ s2).trans hc2k;have hlk:=Ea (hP4.later s1) HDP.out HQ.out hcs;go_simp<;>rfl)
   try simp only [zS]
   refine tk 8 jH ?_ (hy:=λx jS=>by obtain⟨s1,s2⟩:=jS;obtain⟨k1a,k1b⟩:=Ag (AC r1 s1);obtain⟨-,-,-,-,k2e,k2f,-,-⟩:=AJ (AC r2 s1);have kc:=(ε _ _ k _ _ _ s2).trans hc2k;have hlk:=Ea (hP4.later s1) HDP.out HQ.out hcs;go_simp<;>rfl)
   try simp only [zS]
   refine tk 9 jH ?_ (hy:=λx jS=>by obtain⟨s1,s2⟩:=jS;obtain⟨k1a,k1b⟩:=Ag (AC r1 s1);obtain⟨-,-,-,-,k2e,k2f,-,-⟩:=AJ (AC r2 s1);have kc:=(ε _ _ k _ _ _ s2).trans hc2k;have hlk:=Ea (hP4.later s1) HDP.out HQ.out hcs;go_simp<;>rfl)
   try simp only [zS]
   refine tk 10 jH ?_;try simp only [zS];refine tk 11 jH ?_ (hy:=λx jS=>by obtain⟨s1,s2⟩:=jS;obtain⟨k1a,k1b⟩:=Ag (AC r1 s1);obtain⟨-,-,-,-,k2e,k2f,-,-⟩:=AJ (AC r2 s1);have kc:=(ε _ _ k _ _ _ s2).trans hc2k;have hlk:=Ea (hP4.later s1) HDP.out HQ.out hcs;go_simp<;>rfl)
   try simp only [zS]
   refine tk 12 jH ?_
   try simp only [zS]
   refine rd 13 (λK hK=>?_);have HV:=Gj ac n cc C pb ai ci x.2 a5 n5 c5 E v (hP4.later jH.1) HDP.out (hI4.later jH.1) (hE4.later jH.1) he1 he3 HCK.out HGX.out;rw [HY.out] at HV;go_simp;refine HV.mono ?_;rintro e v3 ⟨rfl,hb3⟩;clear HV;replace hOg:=AF hOg hb3;replace hRC:=λr hr=>(hRC r hr).imp3 hb3;refine hK.out _ _ ⟨AA jH.1 hb3,AC jH.2 hb3⟩ (λjH=>?_);clear hK K;try simp only [zS]
   refine tk 14 jH ?_
   try simp only [zS]
   refine rd 15 (λK hK=>?_);obtain⟨y0_,y1_,y2_⟩:=Dv (EK hOg hxs) hqn;obtain⟨fz0,fz1,fz2⟩:=FY hOg (q * 3);have hILY:IL (((v3.setCell ⟨g,q * 3,ν⟩ (ι κ y.o)).setCell ⟨g,q * 3+1,ν⟩ (ι κ y.m)).setCell ⟨g,q * 3+2,ν⟩ (τ y.s)) (ς ⟨g,0,ν⟩) n (Ck x.2 q y):=Gh hOg hxs hys hqn;have hbkY:=Js hOg q y;go_simp;refine hK.out _ _ ⟨Bg (Bg (Bg jH.1 (by omega)) (by omega)) (by omega),Af (Af (Af jH.2 (by omega)) (by omega)) (by omega)⟩ (λjH=>?_);clear hK K;try simp only [Act.put]
   refine VP (by kernel_rfl) ?_ _;have hRCY:∀ r∈Cs,RC w4 (((v3.setCell ⟨g,q * 3,ν⟩ (ι κ y.o)).setCell ⟨g,q * 3+1,ν⟩ (ι κ y.m)).setCell ⟨g,q * 3+2,ν⟩ (τ y.s)) r:=λr hr=>(((hRC r hr).set (by have:=hCb r hr;omega)).set (by have:=hCb r hr;omega)).set (by have:=hCb r hr;omega);have hsY:(((v3.setCell ⟨g,q * 3,ν⟩ (ι κ y.o)).setCell ⟨g,q * 3+1,ν⟩ (ι κ y.m)).setCell ⟨g,q * 3+2,ν⟩ (τ y.s)).heap.size=v3.heap.size:=by rw [Ve,Ve,Ve]
   have hglY:=hOg.lt g rfl;generalize (((v3.setCell ⟨g,q * 3,ν⟩ (ι κ y.o)).setCell ⟨g,q * 3+1,ν⟩ (ι κ y.m)).setCell ⟨g,q * 3+2,ν⟩ (τ y.s))=v5 at hILY hbkY jH hRCY hsY ⊢;obtain⟨hb5,hBC5⟩:=jH;have kc5:=(ε _ _ k _ _ _ hBC5).trans hc2k;have HL:=Ha (ς ⟨g,0,ν⟩) n cap (Ck x.2 q y) v5 hILY hn1;have hlon:=Ln (q:=q) (y:=y) HX2.out hqn;have hRoY:RoAt v5 ⟨g,cap,(n,Ck x.2 q y)⟩:=⟨hbkY,hILY⟩;have HCF:Hid (Ed C n q E n5 x=(n,Ck x.2 q y)):=by show _=_;unfold Ed;rw [HY.out,HXG.out x HXM.out |>.1]
   have HBF:Hid (Ho C n E n5 x=decide (200<y.s.size)):=by show _=_;unfold Ho;rw [HY.out]
   by_cases hbg:200<y.s.size
   ·
    have hl2:=hlon.2 hbg;have hl:(200:Int)<(CP (Ck x.2 q y) n:Int):=by omega
    generalize CP (Ck x.2 q y) n=ln at HL hl;clear hlon hl2;go_wp2_with (go_at_call 82;refine HL.mono ?_;rintro e v6 ⟨rfl,hb6⟩)
    go_ret
    refine⟨GW (AA hbw4 (AA hb5 hb6)) _,VV ⟨?_,rfl,hM4.later (AA hb5 hb6)⟩⟩;exact List.any_eq_true.2 ⟨x,HXM.out,by rw [HBF.out];simpa using hbg⟩
   ·
    have hl2:¬200<CP (Ck x.2 q y) n:=λz=>hbg (hlon.1 z);have hl:¬(200:Int)<(CP (Ck x.2 q y) n:Int):=by omega
    generalize CP (Ck x.2 q y) n=ln at HL hl;clear hlon hl2;go_wp2_with (go_at_call 82;refine HL.mono ?_;rintro e v6 ⟨rfl,hb6⟩)
    go_roundw
    case rel=>exact⟨k+1,Cs ++ [⟨g,cap,(n,Ck x.2 q y)⟩],cur2,by omega,by go_num,by rw [HT.out,List.map_append,List.map_append,HCX.out,List.map_singleton,List.map_singleton,HCF.out],by simp [hCl],λr hr=>by
     rcases List.mem_append.1 hr with h | h
     · exact(hRCY r h).imp3 hb6
     · rw [List.mem_singleton] at h;subst h;exact⟨hRoY.all (BlkC.below hb6),by show w4.heap.size<g;omega,by show g<_;have:=hb6.size;omega⟩,by
     rw [List.map_append,List.nodup_append];refine⟨HND.out,by simp,λa ha b hb=>?_⟩;obtain⟨r,hr,rfl⟩:=List.mem_map.1 ha;have h1:=hCb r hr;have h2:b=g:=by simpa using hb
     omega,AC hBC5 hb6,hc2z,λj hj=>by
     by_cases e:j=k
     · subst e;rw [hc2k,F7 hCl];rfl
     · rw [HCJ2.out j (by omega),F8 (by omega)],by rw [HT.out,List.any_append,HBG.out];simp [HBF.out,hbg],AA hb5 hb6,by have:=hb6.size;omega⟩
    case measure=>simp [VQ];omega
