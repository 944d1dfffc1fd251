import Derived.Test.YtoeencbghldmdaaGreatDoorXt
import Derived.Test.YtoeencbghldmdaaGreatDoorVd
import Derived.Test.YtoeencbghldmdaaGreatDoorTf
import Derived.Deep.AppendLies
open Bool renaming and_eq_true → VO
open Go renaming Calls → VK, World → ο, cell_of_row → ε, bodyPost_ret → VE, heap_alloc_new → η, wpAnyH_done → VP, wp_region_held_drew → VH, Value → VN, wpList_append_lies → VR
open Go.Ending renaming returned → ρ
open Go.IntKind renaming i64 → κ
open Go.Obj renaming cells → γ
open Go.Op renaming bytesLess → Va
open Go.Proofs.Tryz renaming prog → μ
open Go.RowKit renaming Below → υ, intOf → VQ
open Go.RowKit.Below renaming refl → VT
open Go.Value renaming agg → χ, int → ι, slice → σ, string → τ, bool → β, tuple → θ
open Go.World renaming size_alloc → ω, news_of_block → VI
open List renaming length_append → VJ, length_take → VY
open Nat renaming zero_add → VM, le_refl → VD, le_trans → VX, not_lt_zero → Vc
open Option renaming none → ν, some → ς
open Option.some renaming inj → VF
open Or renaming inl → VV, inr → Vb
namespace Go.Proofs.YtoeencbghldmdaaGreatDoor
open Go.RowKit Go.Maps Go.WideMaps
set_option maxRecDepth 20000
set_option maxHeartbeats 4000000
theorem TbAt.rs{w:ο}{t:Tb}(h:TbAt w t):RS w t.ar t.L:=λk hk=>by
 rcases h.row with z | ⟨b,cur,e,h1,h2⟩
 · omega
 · exact⟨b,0,by unfold Tb.ar;rw [e];rfl,by rw [VM];exact(ε _ _ k _ _ _ h1).trans (h2 k hk)⟩
theorem TbOf.len{t:Tb}{d:Td}(h:TbOf t d):t.L.length=d.r:=by have:=congrArg List.length h.L;simpa using this
theorem Nx:∀ {A:List Tb} {t:Tb},(A.flatMap Tb.bl).Nodup->t∈A->t.bl.Nodup
 | [],_,_,h=>by cases h
 | x :: A,t,hn,h=>by
  rw [List.flatMap_cons,List.nodup_append] at hn;rcases List.mem_cons.1 h with e | e
  · rw [e];exact hn.1
  · exact Nx hn.2.1 e
theorem IK{n n' j:Nat}{V:Nat->Itm}{C:Nat->Clm}(h:BA n n' V C=true)(hj:j<n):(V j).o=(C j).t:=by
 unfold BA at h;simp only [VO] at h
 have:=CE h.2 hj;simpa using this
theorem Rh.of{lo g n j:Nat}{w:ο}{A:List Tb}{T:Nat->Td}(h:DbIn lo w g A)(hl:A.length=n)(hj:j<n)(ho:TbOf (A.getD j b0) (T j))(hok:Br (T j)=true)(hsm:Sm3 (T j))(hrg:∀ i,i<(T j).r->rg ((T j).R i 0).m):Rh w (ς ⟨(A.getD j b0).bc,0,ν⟩) (T j).n (T j).C (A.getD j b0).ar (T j).r (T j).m (T j).R (A.getD j b0).L:=by
 have htm:A.getD j b0∈A:=Ae (by omega);have hat:=h.1.2.1 _ htm;have hN:=Bi hok;obtain⟨-,-,-,h1000,-,-⟩:=CF hok;have hx:(A.getD j b0).L.map Ro.x=CN (T j).r (T j).m (T j).R:=ho.L;refine⟨?_,Fb hok,hat.ol ho hsm,hat.rs,λr hr=>⟨hat.ros r hr,?_⟩,ho.len,h1000,hN,Dt hok,hx,?_,Sd.of hok,hrg⟩
 · have:=hat.cl;rwa [ho.n,ho.C] at this
 ·
  have h1:r.x∈CN (T j).r (T j).m (T j).R:=by rw [←hx];exact List.mem_map_of_mem hr
  obtain⟨i,hi,e⟩:=Ce h1;rw [e];show 0<(T j).m i
  rw [hN.len i hi];exact hN.n0
 · have h1:=(List.nodup_cons.1 h.1.2.2).2;have h2:(A.getD j b0).bl.Nodup:=Nx h1 htm;unfold Tb.bl at h2;exact(List.nodup_append.1 (List.nodup_cons.1 h2).2).2.1
structure TdE(d d':Td):Prop where
 s:d.s=d'.s
 n:d.n=d'.n
 C:d.C=d'.C
 L:CN d.r d.m d.R=CN d'.r d'.m d'.R
theorem TdE.refl(d:Td):TdE d d:=⟨rfl,rfl,rfl,rfl⟩
theorem TbOf.eq{t:Tb}{d d':Td}(h:TbOf t d)(e:TdE d d'):TbOf t d':=⟨h.s.trans e.s,h.n.trans e.n,h.C.trans e.C,Eq.trans (show t.L.map Ro.x=CN d.r d.m d.R from h.L) e.L⟩
theorem AnP.eq{lo:Nat}{w:ο}{Ad Ad':List Td}{cd:Int}{e:Ending}{w':ο}(h:AnP lo w Ad cd e w')(hl:Ad.length=Ad'.length)(he:∀ i,i<Ad.length->TdE (Ad.getD i t0) (Ad'.getD i t0)):AnP lo w Ad' cd e w':=by
 obtain⟨g,c,B,h1,h2,h3,h4,h5⟩:=h;exact⟨g,c,B,by rw [←hl];exact h1,h2,h3.trans hl,λi hi=>(h4 i (by omega)).eq (he i (by omega)),h5⟩
theorem N2{T:Nat->Td}{n j:Nat}{d d':Td}(hj:j<n)(h:TdE d d'):((Ap T n).take j ++ d :: (Ap T n).drop (j+1)).length=((Ap T n).take j ++ d' :: (Ap T n).drop (j+1)).length/\∀ i,i<((Ap T n).take j ++ d :: (Ap T n).drop (j+1)).length->TdE (((Ap T n).take j ++ d :: (Ap T n).drop (j+1)).getD i t0) (((Ap T n).take j ++ d' :: (Ap T n).drop (j+1)).getD i t0):=by
 refine⟨by simp,λi _=>?_⟩;rcases Nat.lt_trichotomy i j with z | z | z
 · rw [CW (by simp [AY];omega),CW (by simp [AY];omega)];exact TdE.refl _
 · subst z;rw [DV (by simp [AY];omega),DV (by simp [AY];omega)];exact h
 · rw [Cr (i:=j) (by simp [AY];omega) z,Cr (i:=j) (by simp [AY];omega) z];exact TdE.refl _
theorem NZ(A:List Rw):CN A.length (λi=>(A.getD i r0).1) (λi=>(A.getD i r0).2)=A:=by
 unfold CN;apply List.ext_getElem?
 intro q;rw [List.getElem?_map];by_cases hq:q<A.length
 · rw [List.getElem?_range hq];simp [hq]
 · rw [List.getElem?_eq_none (by simp;omega),List.getElem?_eq_none (by omega)];rfl
theorem Ij(s:ByteArray)(n:Nat)(C:Nat->Clm)(A:List Rw):CN (CA s n C A).r (CA s n C A).m (CA s n C A).R=A:=NZ A
theorem NJ{T:Nat->Td}{n j:Nat}(hj:j<n):(Ap T n).take j ++ T j :: (Ap T n).drop (j+1)=Ap T n:=by
 have h1:(Ap T n).drop j=T j :: (Ap T n).drop (j+1):=by
  rw [List.drop_eq_getElem_cons (by rw [AY];exact hj)];congr 1
  simp [Ap]
 rw [←h1,List.take_append_drop]
theorem Nt{d:St}(h:AK d=true)(hk:d.k<3):d.n6=0:=by
 unfold AK at h;simp only [VO,Bool.not_eq_true',Bool.and_eq_false_iff,decide_eq_false_iff_not] at h
 rcases h.1.2 with z | z
 · exact absurd hk z
 · simpa using z
structure Ah(lo g n:Nat)(A:List Tb)(T:Nat->Td)(w:ο):Prop where
 db:DbIn lo w g A
 al:A.length=n
 tof:∀ i,i<n->TbOf (A.getD i b0) (T i)
 sm:∀ i,i<n->Sm3 (T i)
 ok:A2 n T=true
 hlo:lo<=w.heap.size
 hrg:∀ k,k<n->∀ i,i<(T k).r->∀ j,j<(T k).n->rg ((T k).R i j).m
theorem Ah.rh{lo g n:Nat}{A:List Tb}{T:Nat->Td}{w:ο}(h:Ah lo g n A T w){j:Nat}(hj:j<n):Rh w (ς ⟨(A.getD j b0).bc,0,ν⟩) (T j).n (T j).C (A.getD j b0).ar (T j).r (T j).m (T j).R (A.getD j b0).L:=Rh.of h.db h.al hj (h.tof j hj) ((Ax h.ok).2 j hj) (h.sm j hj) (λi hi=>h.hrg j hj i hi 0 (Bi ((Ax h.ok).2 j hj)).n0)
theorem Ah.n{lo g n:Nat}{A:List Tb}{T:Nat->Td}{w:ο}(h:Ah lo g n A T w):n<=100:=(Ax h.ok).1
theorem Ah.set{lo g n:Nat}{A:List Tb}{T:Nat->Td}{w:ο}(h:Ah lo g n A T w){j:Nat}(hj:j<n){d:Td}(hd:(T j).s=d.s):DB T d n=(Ap T n).take j ++ d :: (Ap T n).drop (j+1):=Gb hj hd (Cw h.ok)
theorem Uf(lo g n:Nat)(A:List Tb)(T:Nat->Td)(tb:ByteArray)(a2:Option Addr)(n2 c2:Nat)(a3:Option Addr)(n3 c3:Nat)(col:ByteArray)(a5:Option Addr)(n5 c5:Nat)(a6:Option Addr)(n6 c6:Nat)(a7:Option Addr)(n7 c7:Nat)(W:Nat->Itm)(w:ο)(hH:Ah lo g n A T w)(hW:IL w a6 n6 W)(hok:AI W n6=true) :
 VK μ 29 #[χ #[σ (ς ⟨g,0,ν⟩) n n],χ #[ι κ 4,τ tb,σ a2 n2 c2,σ a3 n3 c3,τ col,σ a5 n5 c5,σ a6 n6 c6,σ a7 n7 c7]] w (AnP lo w (match An T tb n with | none=>(Ap T n,1) | some j=>JO T n (T j).s (T j).n (T j).C (T j).r (T j).m (T j).R W n6).1 (match An T tb n with | none=>(Ap T n,1) | some j=>JO T n (T j).s (T j).n (T j).C (T j).r (T j).m (T j).R W n6).2):=by
 refine(Fp lo g n A T 4 tb a2 n2 c2 a3 n3 c3 col a5 n5 c5 a6 n6 c6 a7 n7 c7 (λj=>CM (T j).C (T j).n W n6) (λ_=>0) (λj=>F1 (T j).C (T j).n (T j).m (T j).R W n6 (T j).r) w hH.db hH.al hH.tof hH.sm hH.ok hH.n (by omega) hH.hlo
  (λj _ v ac cc pb hv h1 h2 h3=>ON ac (T j).n cc (T j).C pb tb a2 n2 c2 a3 n3 c3 col a5 n5 c5 a6 n6 c6 a7 n7 c7 W v h1 h2 h3 (hW.later hv) hok)
  (λj hj hc v hv=>by
   have hjn:=(A4 hj).1;rw [(hH.tof j hjn).n,(hH.tof j hjn).len];exact TV _ _ (T j).n _ (T j).C _ (T j).r _ (T j).m (T j).R tb a2 n2 c2 a3 n3 c3 col a5 n5 c5 a6 n6 c6 a7 n7 c7 W _ v ((hH.rh hjn).later hv) (hW.later hv) hok hc)).mono (λe w' h=>?_)
 unfold MI at h;rcases ht:An T tb n with _ | j
 · rw [ht] at h;exact h
 ·
  rw [ht] at h;have hjn:=(A4 ht).1;simp only at h ⊢
  unfold JO;by_cases hc:CM (T j).C (T j).n W n6=0
  · rw [if_neg (λz=>z hc),if_neg (by simp)] at h;rw [if_pos hc,hH.set hjn (d:=CA (T j).s (T j).n (T j).C (F1 (T j).C (T j).n (T j).m (T j).R W n6 (T j).r)) rfl];exact h
  · rw [if_pos hc] at h;rw [if_neg hc];exact h
theorem Ue(lo g n:Nat)(A:List Tb)(T:Nat->Td)(tb:ByteArray)(a2:Option Addr)(n2 c2:Nat)(a3:Option Addr)(n3 c3:Nat)(col:ByteArray)(a5:Option Addr)(n5 c5:Nat)(a6:Option Addr)(n6 c6:Nat)(a7:Option Addr)(n7 c7:Nat)(W:Nat->Itm)(m7:Nat->Nat)(O:Nat->Nat->Itm)(w:ο)(hH:Ah lo g n A T w)(hO:OL w a7 n7 m7 O)(hW:IL w a6 n6 W)(h7:n7<=1048576)(hex:∀ i,i<n7->AZ (O i) (m7 i)=true)(hok:AI W n6=true) :
 VK μ 29 #[χ #[σ (ς ⟨g,0,ν⟩) n n],χ #[ι κ 5,τ tb,σ a2 n2 c2,σ a3 n3 c3,τ col,σ a5 n5 c5,σ a6 n6 c6,σ a7 n7 c7]] w (AnP lo w (match An T tb n with | none=>(Ap T n,1) | some j=>(Ap T n,Hv (T j).C (T j).n m7 O n7 W n6)).1 (match An T tb n with | none=>(Ap T n,1) | some j=>(Ap T n,Hv (T j).C (T j).n m7 O n7 W n6)).2):=by
 refine(Fp lo g n A T 5 tb a2 n2 c2 a3 n3 c3 col a5 n5 c5 a6 n6 c6 a7 n7 c7 (λj=>Hv (T j).C (T j).n m7 O n7 W n6) (λ_=>0) (λj=>CN (T j).r (T j).m (T j).R) w hH.db hH.al hH.tof hH.sm hH.ok hH.n (by omega) hH.hlo
  (λj _ v ac cc pb hv h1 h2 h3=>KD ac (T j).n cc (T j).C pb tb a2 n2 c2 a3 n3 c3 col a5 n5 c5 a6 n6 c6 a7 n7 c7 W m7 O v h1 h2 h3 (hO.later hv) (hW.later hv) h7 hex hok)
  (λj hj hc v hv=>by
   have hjn:=(A4 hj).1;rw [(hH.tof j hjn).n,(hH.tof j hjn).len];exact TU _ _ (T j).n _ (T j).C _ (T j).r _ (T j).m (T j).R tb a2 n2 c2 a3 n3 c3 col a5 n5 c5 a6 n6 c6 a7 n7 c7 _ v ((hH.rh hjn).later hv))).mono (λe w' h=>?_)
 unfold MI at h;rcases ht:An T tb n with _ | j
 · rw [ht] at h;exact h
 ·
  rw [ht] at h;have hjn:=(A4 ht).1;simp only at h ⊢
  by_cases hc:Hv (T j).C (T j).n m7 O n7 W n6=0
  · rw [if_neg (λz=>z hc),if_neg (by simp)] at h;rw [hc];have he:=N2 (T:=T) hjn (d:=CA (T j).s (T j).n (T j).C (CN (T j).r (T j).m (T j).R)) (d':=T j) ⟨rfl,rfl,rfl,Ij _ _ _ _⟩;rw [NJ hjn] at he;exact h.eq he.1 he.2
  · rw [if_pos hc] at h;exact h
theorem Uh(lo g n:Nat)(A:List Tb)(T:Nat->Td)(tb:ByteArray)(a2:Option Addr)(n2 c2:Nat)(a3:Option Addr)(n3 c3:Nat)(col:ByteArray)(a5:Option Addr)(n5 c5:Nat)(a6:Option Addr)(n6 c6:Nat)(a7:Option Addr)(n7 c7:Nat)(V W:Nat->Itm)(w:ο)(hH:Ah lo g n A T w)(hV:IL w a3 n3 V)(hW:IL w a6 n6 W)(h6:n6=0)(hn3:0<n3)(hn3m:n3<=20)(hVg:∀ j,j<n3->Bu (V j))(hVr:rg (V 0).m) :
 VK μ 29 #[χ #[σ (ς ⟨g,0,ν⟩) n n],χ #[ι κ 2,τ tb,σ a2 n2 c2,σ a3 n3 c3,τ col,σ a5 n5 c5,σ a6 n6 c6,σ a7 n7 c7]] w (AnP lo w (match An T tb n with | none=>(Ap T n,1) | some j=>Gi T n (T j).s (T j).n (T j).C (T j).r (T j).m (T j).R n3 V).1 (match An T tb n with | none=>(Ap T n,1) | some j=>Gi T n (T j).s (T j).n (T j).C (T j).r (T j).m (T j).R n3 V).2):=by
 have hok:AI W n6=true:=by subst h6;simp [AI]
 have hcw:∀ C n,CM C n W n6=0:=λC n=>by subst h6;simp [CM]
 refine(Fp lo g n A T 2 tb a2 n2 c2 a3 n3 c3 col a5 n5 c5 a6 n6 c6 a7 n7 c7 (λj=>if BA n3 (T j).n V (T j).C=false then 4 else CM (T j).C (T j).n W n6) (λj=>if A0 (T j).R (V 0).m (V 0).s (T j).r<(T j).r/\BH ((T j).R (A0 (T j).R (V 0).m (V 0).s (T j).r) 0).m ((T j).R (A0 (T j).R (V 0).m (V 0).s (T j).r) 0).s (V 0).m (V 0).s=0 then 5 else if (T j).r=1000 then 6 else 0) (λj=>(List.range ((T j).r+1)).map (Cb (T j).m (T j).R (n3,V) (A0 (T j).R (V 0).m (V 0).s (T j).r))) w hH.db hH.al hH.tof hH.sm hH.ok hH.n (by omega) hH.hlo
  (λj hj v ac cc pb hv h1 h2 h3=>OP ac (T j).n cc (T j).C pb tb a2 n2 c2 a3 n3 c3 col a5 n5 c5 a6 n6 c6 a7 n7 c7 V W v h1 h2 h3 (hW.later hv) hok (hV.later hv) (by have:=(Bi ((Ax hH.ok).2 j (A4 hj).1)).n1;omega) (by omega))
  (λj hj hc v hv=>by
   have hjn:=(A4 hj).1;have hty:BA n3 (T j).n V (T j).C=true:=by
    rcases z:BA n3 (T j).n V (T j).C with _ | _
    · simp [z] at hc
    · rfl
   rw [(hH.tof j hjn).n,(hH.tof j hjn).len];exact TX _ _ (T j).n _ (T j).C _ (T j).r _ (T j).m (T j).R tb a2 n2 c2 a3 n3 c3 col a5 n5 c5 a6 n6 c6 a7 n7 c7 V _ v ((hH.rh hjn).later hv) (hV.later hv) hn3 hn3m ⟨hVg 0 hn3,IK hty hn3⟩ hVr)).mono (λe w' h=>?_)
 unfold MI at h;rcases ht:An T tb n with _ | j
 · rw [ht] at h;exact h
 ·
  rw [ht] at h;have hjn:=(A4 ht).1;simp only [hcw] at h ⊢
  unfold Gi;by_cases hty:BA n3 (T j).n V (T j).C=false
  · rw [if_pos hty] at h ⊢;rw [if_pos (by omega)] at h;exact h
  ·
   rw [if_neg hty] at h ⊢;rw [if_neg (by simp)] at h;by_cases hh:A0 (T j).R (V 0).m (V 0).s (T j).r<(T j).r/\BH ((T j).R (A0 (T j).R (V 0).m (V 0).s (T j).r) 0).m ((T j).R (A0 (T j).R (V 0).m (V 0).s (T j).r) 0).s (V 0).m (V 0).s=0
   · rw [if_pos hh] at h ⊢;rw [if_pos (by omega)] at h;exact h
   ·
    rw [if_neg hh] at h ⊢;by_cases hr:(T j).r=1000
    · rw [if_pos hr] at h ⊢;rw [if_pos (by omega)] at h;exact h
    · rw [if_neg hr] at h ⊢;rw [if_neg (by simp)] at h;rw [hH.set hjn (d:=OA (T j).s (T j).n (T j).C (T j).r (T j).m (T j).R n3 V (A0 (T j).R (V 0).m (V 0).s (T j).r)) rfl];have he:=N2 (T:=T) hjn (d:=CA (T j).s (T j).n (T j).C ((List.range ((T j).r+1)).map (Cb (T j).m (T j).R (n3,V) (A0 (T j).R (V 0).m (V 0).s (T j).r)))) (d':=OA (T j).s (T j).n (T j).C (T j).r (T j).m (T j).R n3 V (A0 (T j).R (V 0).m (V 0).s (T j).r)) ⟨rfl,rfl,rfl,(Ij _ _ _ _).trans rfl⟩;exact h.eq he.1 he.2
theorem F2{z:Int}:rg z↔-9223372036854775808<=z/\z<=9223372036854775807:=by
 have q1:IntKind.i64.min=-9223372036854775808:=rfl;have q2:IntKind.i64.max=9223372036854775807:=rfl;unfold rg;simp only [Lit.wf,q1,q2,VO,decide_eq_true_eq]
theorem Ir(z:Int):rg (wrap64 z):=by
 rw [F2];unfold wrap64;omega
theorem Iq:rg 0:=by rw [F2];omega
theorem G4(b:Bool):rg (Kf b).m:=by
 rw [F2];cases b <;> simp [Kf,Db]
theorem Ru(o:Int)(x y:Itm)(hs:x.s.size<=1048576):rg (C8 o x y).m:=by
 unfold C8;split
 · exact G4 _
 split
 · rw [F2];show -9223372036854775808<=(x.s.size:Int)/\(x.s.size:Int)<=9223372036854775807;omega
 split
 · exact Ir _
 split
 · exact Ir _
 split
 · exact Ir _
 split
 · exact G4 _
 split
 · exact G4 _
 split
 · exact G4 _
 split
 · exact G4 _
 · exact Iq
theorem R6{C:Nat->Clm}{n:Nat}{R I:Nat->Itm}{m:Nat}{x:Int}(hR:∀ j,j<n->rg (R j).m/\(R j).s.size<=200)(hI:∀ i,i<m->rg (I i).m)(hx:ex I m=ς x)(hm:m<=100):∀ k,k<=m->∀ y∈vl C n R I k,rg y.m:=by
 intro k;induction k with
 | zero=>intro _ y hy;simp [vl] at hy
 | succ k ih=>
  intro hk y hy;rw [vl] at hy;rcases List.mem_append.1 hy with h | h
  · exact ih (by omega) y (List.mem_of_mem_take h)
  ·
   rw [List.mem_singleton] at h;subst h;unfold FC;split
   · exact hI k (by omega)
   split
   · exact Iq
   split
   ·
    rcases hc:BF C (I k).s n with _ | j
    · exact Iq
    · exact(hR j (Bz hc).1).1
   ·
    refine Ru _ _ _ ?_;have h1:=Ii (C:=C) (λj hj=>(hR j hj).2) hx k (by omega);have h2:=FM (vl C n R I k) ((vl C n R I k).length - DZ (I k).o);generalize (vl C n R I k).drop ((vl C n R I k).length - DZ (I k).o)=a at h2 ⊢;by_cases ha:0<a.length
    · have:=AaA ha;omega
    ·
     have e:a.getD 0 d0=d0:=by
      obtain rfl:a=[]:=List.eq_nil_of_length_eq_zero (by omega);rfl
     rw [e];show (0:Nat)<=_
     omega
theorem NE{C:Nat->Clm}{n:Nat}{R I:Nat->Itm}{m:Nat}(hR:∀ j,j<n->rg (R j).m/\(R j).s.size<=200)(hI:∀ i,i<m->rg (I i).m)(hx:ex I m=ς 1)(hm:m<=100):rg (Bv C n R I m).m:=by
 unfold Bv;have hl:=EE (C:=C) (n:=n) (R:=R) hx;exact R6 hR hI hx hm m (VD _) _ (Ae (by omega))
theorem NF{C:Nat->Clm}{n:Nat}{R I:Nat->Itm}{m:Nat}(hR:Bc n C R)(hx:ex I m=ς 1)(hck:(ck C n I m).2=0):Bu (Bv C n R I m)/\(Bv C n R I m).o=(DA C n I m).1:=by
 have hl:=EE (C:=C) (n:=n) (R:=R) hx;obtain⟨h1,h2⟩:=QH (λj hj=>(hR j hj).2) hx hck m (VD _);have h3:=h2 0 (by omega);unfold Bv DA;rw [if_neg (by simp [hck])];exact⟨h3.2,h3.1⟩
theorem Qc{C:Nat->Clm}{n q:Nat}{col:ByteArray}{E:Nat->Itm}{n5:Nat}{W:Nat->Itm}{n6:Nat}(hq:BF C col n=ς q):(if LK C n col E n5=0 then CM C n W n6 else LK C n col E n5)=Ke C n q E n5 W n6:=by
 unfold LK Ke;rw [hq];simp only
 unfold Om;by_cases h1:(DA C n E n5).2=0
 ·
  by_cases h2:(DA C n E n5).1=(C q).t
  · simp [h1,h2]
  · simp [h1,h2]
 · simp [h1]
theorem Ug(lo g n:Nat)(A:List Tb)(T:Nat->Td)(tb:ByteArray)(a2:Option Addr)(n2 c2:Nat)(a3:Option Addr)(n3 c3:Nat)(col:ByteArray)(a5:Option Addr)(n5 c5:Nat)(a6:Option Addr)(n6 c6:Nat)(a7:Option Addr)(n7 c7:Nat)(E W:Nat->Itm)(w:ο)(hH:Ah lo g n A T w)(hE:IL w a5 n5 E)(hW:IL w a6 n6 W)(hokE:AZ E n5=true)(hok:AI W n6=true)(hcs:col.size<=1048576)(hEr:∀ i,i<n5->rg (E i).m) :
 VK μ 29 #[χ #[σ (ς ⟨g,0,ν⟩) n n],χ #[ι κ 3,τ tb,σ a2 n2 c2,σ a3 n3 c3,τ col,σ a5 n5 c5,σ a6 n6 c6,σ a7 n7 c7]] w (AnP lo w (match An T tb n with | none=>(Ap T n,1) | some j=>Gd T n (T j).s (T j).n (T j).C (T j).r (T j).m (T j).R col E n5 W n6).1 (match An T tb n with | none=>(Ap T n,1) | some j=>Gd T n (T j).s (T j).n (T j).C (T j).r (T j).m (T j).R col E n5 W n6).2):=by
 obtain⟨he1,he2,he3⟩:=BX hokE;refine(Fp lo g n A T 3 tb a2 n2 c2 a3 n3 c3 col a5 n5 c5 a6 n6 c6 a7 n7 c7 (λj=>if LK (T j).C (T j).n col E n5=0 then CM (T j).C (T j).n W n6 else LK (T j).C (T j).n col E n5) (λj=>match BF (T j).C col (T j).n with | none=>0 | some q=>if DY (T j).C (T j).n (T j).R E n5 W n6 (T j).r=true then 6 else if Cc (Av (T j).n (T j).C (T j).r (T j).m (T j).R q E n5 W n6) (T j).r=true then 5 else 0) (λj=>match BF (T j).C col (T j).n with | none=>[] | some q=>Av (T j).n (T j).C (T j).r (T j).m (T j).R q E n5 W n6) w hH.db hH.al hH.tof hH.sm hH.ok hH.n (by omega) hH.hlo
  (λj hj v ac cc pb hv h1 h2 h3=>OO ac (T j).n cc (T j).C pb tb a2 n2 c2 a3 n3 c3 col a5 n5 c5 a6 n6 c6 a7 n7 c7 E W v h1 h2 h3 (hW.later hv) hok (hE.later hv) he1 he3 hcs)
  (λj hj hc v hv=>by
   have hjn:=(A4 hj).1;have hokj:=(Ax hH.ok).2 j hjn;have hgj:=Dt hokj;have hNj:=Bi hokj;rcases hq:BF (T j).C col (T j).n with _ | q
   ·
    simp only [LK,hq] at hc
    omega
   ·
    simp only at hc ⊢
    rw [Qc hq] at hc;obtain⟨hc1,hc2,hc3⟩:=NG hc;have hck:=FO hc1;rw [(hH.tof j hjn).n,(hH.tof j hjn).len];refine TW _ _ (T j).n _ (T j).C _ (T j).r _ (T j).m (T j).R tb a2 n2 c2 a3 n3 c3 col a5 n5 c5 a6 n6 c6 a7 n7 c7 E W q _ v ((hH.rh hjn).later hv) (hE.later hv) (hW.later hv) hok hc3 hokE hck hq hcs ?_ ?_ ?_
    ·
     refine Ci (λi hi=>?_);unfold Kt Ed Ck;simp only
     split
     ·
      rename_i e
      subst e;have z:=NF (hgj i hi) he3 hck;exact⟨z.1,z.2.trans hc2⟩
     · exact⟨(hgj i hi 0 hNj.n0).2.1,(hgj i hi 0 hNj.n0).2.2⟩
    ·
     refine Ci (λi hi=>?_);unfold Ed Ck;simp only
     split
     · exact NE (λq hq=>⟨hH.hrg j hjn i hi q hq,(hgj i hi q hq).1⟩) hEr he3 he1
     · exact hH.hrg j hjn i hi 0 hNj.n0
    ·
     refine Ci (λi hi=>?_);unfold Ed Ck;simp only
     split
     · exact Do (λq hq=>(hgj i hi q hq).1) he3 he1 he2
     · have:=(hgj i hi 0 hNj.n0).1;omega)).mono (λe w' h=>?_)
 unfold MI at h;rcases ht:An T tb n with _ | j
 · rw [ht] at h;exact h
 ·
  rw [ht] at h;have hjn:=(A4 ht).1;simp only at h ⊢
  unfold Gd;rcases hq:BF (T j).C col (T j).n with _ | q
  ·
   simp only [LK,hq] at h ⊢
   rw [if_neg (by omega:¬(3:Int)=0),if_pos (by omega)] at h;exact h
  ·
   rw [Qc hq] at h;simp only [hq] at h ⊢
   by_cases hc:Ke (T j).C (T j).n q E n5 W n6=0
   ·
    rw [if_neg (λz=>z hc)] at h ⊢;by_cases hb:DY (T j).C (T j).n (T j).R E n5 W n6 (T j).r=true
    · rw [if_pos hb] at h ⊢;rw [if_pos (by omega)] at h;exact h
    ·
     rw [if_neg hb] at h ⊢;by_cases hd:Cc (Av (T j).n (T j).C (T j).r (T j).m (T j).R q E n5 W n6) (T j).r=true
     · rw [if_pos hd] at h ⊢;rw [if_pos (by omega)] at h;exact h
     · rw [if_neg hd] at h ⊢;rw [if_neg (by simp)] at h;rw [hH.set hjn (d:=CA (T j).s (T j).n (T j).C (Av (T j).n (T j).C (T j).r (T j).m (T j).R q E n5 W n6)) rfl];exact h
   · rw [if_pos hc] at h ⊢;exact h
def PA(A:List Td):Bool:=A2 A.length (λi=>A.getD i t0)
theorem FQ{n:Nat}{p q:Nat->Bool}(h:∀ k,k<n->p k=q k):allN n p=allN n q:=by
 rw [Bool.eq_iff_iff,Cj,Cj];exact⟨λg k hk=>by rw [←h k hk];exact g k hk,λg k hk=>by rw [h k hk];exact g k hk⟩
theorem Kz{n:Nat}{T T':Nat->Td}(h:∀ k,k<n->T' k=T k):A2 n T'=A2 n T:=by
 unfold A2 Ga;have e1:allN n (λk=>Br (T' k))=allN n (λk=>Br (T k)):=FQ λk hk=>by rw [h k hk]
 have e2:allN n (Ki T')=allN n (Ki T):=FQ λk hk=>by
  unfold Ki;by_cases e:k=0
  · simp [e]
  · rw [h k hk,h (k - 1) (by omega)]
 rw [e1,e2]
theorem RK(T:Nat->Td)(n:Nat):PA (Ap T n)=A2 n T:=by
 unfold PA;rw [AY];exact Kz λk hk=>DC T hk
theorem Gl{α:Type}{A:List α}{i:Nat}(y:α)(h:i<A.length):A.getD i y=A[i]:=by simp [h]
theorem Nu{A:List Td}(hl:A.length<=100)(ho:∀ d∈A,Br d=true)(hp:A.Pairwise (λx y=>Va x.s.toList y.s.toList=true)):PA A=true:=by
 unfold PA A2 Ga;simp only [VO,decide_eq_true_eq]
 refine⟨⟨hl,Ak λk hk=>ho _ (Ae hk)⟩,Ak λk hk=>?_⟩;unfold Ki;simp only [Bool.or_eq_true,decide_eq_true_eq]
 by_cases e:k=0
 · exact VV e
 · have:=List.pairwise_iff_getElem.1 hp (k - 1) k (by omega) hk (by omega);rw [Gl t0 (show k - 1<A.length by omega),Gl t0 hk];exact Vb this
theorem QK{n:Nat}{T:Nat->Td}(h:A2 n T=true):(Ap T n).Pairwise (λx y=>Va x.s.toList y.s.toList=true):=by
 unfold Ap;rw [List.pairwise_map];exact List.Pairwise.imp_of_mem (R:=λi j=>i<j) (λ{i j} _ hj hij=>Cw h j i (List.mem_range.1 hj) hij) List.pairwise_lt_range
theorem QL{n:Nat}{T:Nat->Td}(h:A2 n T=true):∀ d∈Ap T n,Br d=true:=λd hd=>by
 obtain⟨k,hk,rfl⟩:=List.mem_map.1 hd;exact(Ax h).2 k (List.mem_range.1 hk)
theorem N1{n i j:Nat}{T:Nat->Td}{d:Td}(h:A2 n T=true)(hd:Br d=true):∀ x∈(Ap T n).take i ++ d :: (Ap T n).drop j,Br x=true:=λx hx=>by
 rcases List.mem_append.1 hx with hx | hx
 · exact QL h x (List.mem_of_mem_take hx)
 ·
  rcases List.mem_cons.1 hx with rfl | hx
  · exact hd
  · exact QL h x (List.mem_of_mem_drop hx)
theorem Qt{n j:Nat}{T:Nat->Td}{d:Td}(h:A2 n T=true)(hj:j<n)(hd:Br d=true)(hs:(T j).s=d.s):PA ((Ap T n).take j ++ d :: (Ap T n).drop (j+1))=true:=by
 have hl:((Ap T n).take j ++ d :: (Ap T n).drop (j+1)).length=n:=by
  simp only [VJ,VY,List.length_cons,List.length_drop,AY]
  omega
 refine Nu (by rw [hl];exact(Ax h).1) (N1 h hd) ?_;have e:((Ap T n).take j ++ d :: (Ap T n).drop (j+1)).map Td.s=(Ap T n).map Td.s:=by
  have:=congrArg (List.map Td.s) (NJ (T:=T) hj);simp only [List.map_append,List.map_cons] at this ⊢
  rw [←hs];exact this
 have hp:=QK h;have hp2:((Ap T n).map Td.s).Pairwise (λx y=>Va x.toList y.toList=true):=List.pairwise_map.2 hp;rw [←e] at hp2;exact List.pairwise_map.1 hp2
theorem Ra{n i:Nat}{T:Nat->Td}{d:Td}(h:A2 n T=true)(hn:n<100)(hd:Br d=true)(hL:Rx T n d.s i)(hne:∀ k,k<n->(T k).s≠d.s):PA ((Ap T n).take i ++ d :: (Ap T n).drop i)=true:=by
 have hp:=QK h;have hl:((Ap T n).take i ++ d :: (Ap T n).drop i).length=n+1:=by
  have:=hL.1;simp only [VJ,VY,List.length_cons,List.length_drop,AY]
  omega
 refine Nu (by omega) (N1 h hd) ?_;have hs:=List.pairwise_append.1 (show ((Ap T n).take i ++ (Ap T n).drop i).Pairwise _ by rw [List.take_append_drop];exact hp);refine List.pairwise_append.2 ⟨hs.1,List.pairwise_cons.2 ⟨λy hy=>?_,hs.2.1⟩,λx hx y hy=>?_⟩
 ·
  obtain⟨q,hq,rfl⟩:=List.getElem_of_mem hy;rw [List.length_drop,AY] at hq;have e:((Ap T n).drop i)[q]'(by rw [List.length_drop,AY];exact hq)=T (i+q):=by simp [Ap]
  rw [e];exact Fj _ _ (hL.2.2 (i+q) (by omega) (by omega)) (λe=>hne (i+q) (by omega) (BD e))
 ·
  rcases List.mem_cons.1 hy with rfl | hy
  ·
   obtain⟨q,hq,rfl⟩:=List.getElem_of_mem hx;rw [VY,AY] at hq;have e:((Ap T n).take i)[q]'(by rw [VY,AY];exact hq)=T q:=by simp [Ap]
   rw [e];exact hL.2.1 q (by omega)
  · exact hs.2.2 x hx y hy
theorem I1{s:ByteArray}{n:Nat}{C:Nat->Clm}{A:List Rw}(h1:AM s=true)(h2:0<n/\n<=20)(h3:allN n (BJ C)=true)(h4:A.length<=1000)
 (h5:∀ x∈A,x.1=n/\∀ j,j<n->BB (x.2 j).o (x.2 j).m (x.2 j).s (C j).t=true) (h6:A.Pairwise (λx y=>Ao x y<0)):Br (CA s n C A)=true:=by
 unfold Br Bk CA;simp only [VO,Bn,decide_eq_true_eq]
 refine⟨⟨⟨⟨h1,by omega,by omega⟩,h4⟩,h3⟩,Ak λi hi=>?_⟩;have hx:=h5 _ (Ae (y:=r0) hi);unfold A5;simp only [VO,Bool.or_eq_true,decide_eq_true_eq]
 refine⟨⟨hx.1,Ak λj hj=>hx.2 j (by rw [hx.1] at hj;exact hj)⟩,?_⟩;by_cases e:i=0
 · exact VV e
 ·
  have h7:=List.pairwise_iff_getElem.1 h6 (i - 1) i (by omega) hi (by omega);rw [Gl r0 (show i - 1<A.length by omega),Gl r0 hi];right
  unfold Ao BH at h7;split at h7
  · assumption
  · split at h7 <;> omega
theorem Pb{d d':Td}(e:TdE d d'):Br d=Br d':=by
 have hl:d.r=d'.r:=by have:=congrArg List.length e.L;rwa [Cf,Cf] at this
 have hr:∀ i,i<d.r->d.m i=d'.m i/\d.R i=d'.R i:=λi hi=>by
  have z:=congrArg (λL=>L[i]?) e.L;simp only [CN,List.getElem?_map,List.getElem?_range hi,List.getElem?_range (show i<d'.r by omega),Option.map_some,Option.some.injEq,Prod.mk.injEq] at z
  exact z
 obtain⟨s,n,C,r,m,R⟩:=d;obtain⟨s',n',C',r',m',R'⟩:=d';obtain⟨e1,e2,e3,-⟩:=e;dsimp only at e1 e2 e3 hl hr
 subst e1 e2 e3 hl;unfold Br Bk;dsimp only
 congr 1
 refine FQ λi hi=>?_;unfold A5;rw [(hr i hi).1,(hr i hi).2];by_cases e:i=0
 · simp [e]
 · rw [(hr (i - 1) (by omega)).2]
theorem Ip{d:Td}(h:Br d=true):∀ x∈CN d.r d.m d.R,x.1=d.n/\∀ j,j<d.n->BB (x.2 j).o (x.2 j).m (x.2 j).s (d.C j).t=true:=λx hx=>by
 obtain⟨i,hi,rfl⟩:=Ce hx;have z:=(CF h).2.2.2.2.2 i hi;unfold A5 at z;simp only [VO,decide_eq_true_eq] at z
 exact⟨z.1.1,λj hj=>CE z.1.2 (by rw [z.1.1];exact hj)⟩
theorem Tq{d:St}(h:AK d=true)(hk:d.k=1)(hd:DW d.C d.n2=true):Br ⟨d.tb,d.n2,d.C,0,λ_=>0,λ_ _=>d0⟩=true:=by
 have hr:=Bx h;unfold BR at hr;rw [if_pos hk] at hr;simp only [VO] at hr
 have hn:AM d.tb=true:=by
  unfold AK at h;simp only [VO] at h
  exact h.1.1.1
 have hc:allN d.n2 (BJ d.C)=true:=by rw [KY,hr.2,hd];rfl
 unfold Br Bk;dsimp only
 rw [hn,hr.1,hc];rfl
theorem Tp{d:Td}(h:Br d=true)(W:Nat->Itm)(n6:Nat):Br (CA d.s d.n d.C (F1 d.C d.n d.m d.R W n6 d.r))=true:=by
 obtain⟨h1,h2,h3,h4,h5,-⟩:=CF h;refine I1 h1 ⟨h2,h3⟩ h5 (VX JN h4) (λx hx=>?_) ?_
 · rw [FN] at hx;exact Ip h x (List.mem_filter.1 hx).1
 · rw [FN];exact(Sd.of h).pw.filter _
theorem LJ{s:ByteArray}(h:s.size=0):s=⟨#[]⟩:=BD (((BY s).2 h).trans ((BY ⟨#[]⟩).2 rfl).symm)
theorem MO{x:Itm}{t:Int}(ht:C9 t=true)(hv:Aa x.o x.m x.s=true)(ho:x.o=t):BB x.o x.m x.s t=true:=by
 rw [DK ht];rw [Gr,hv,ho];simp
theorem JQ{C:Nat->Clm}{n j:Nat}(h:allN n (BJ C)=true)(hj:j<n):C9 (C j).t=true:=by
 have:=CE h hj;unfold BJ at this;simp only [VO] at this
 exact this.1.2
theorem JY{x:Itm}(h:Aa x.o x.m x.s=true):Bu x:=by
 unfold Aa at h;simp only [Bool.or_eq_true,VO,beq_iff_eq,decide_eq_true_eq] at h
 rcases h with ⟨⟨h1,-⟩,h2⟩ | ⟨⟨h1,h2⟩,-⟩
 · exact VV ⟨h1,LJ h2⟩
 · exact Vb ⟨h1,h2⟩
theorem S8{d:Td}(h:Br d=true){n3:Nat}{V:Nat->Itm}(hV:∀ j,j<n3->Aa (V j).o (V j).m (V j).s=true)(ht:BA n3 d.n V d.C=true)
 (hno:¬(A0 d.R (V 0).m (V 0).s d.r<d.r/\BH (d.R (A0 d.R (V 0).m (V 0).s d.r) 0).m (d.R (A0 d.R (V 0).m (V 0).s d.r) 0).s (V 0).m (V 0).s=0)) (hr:d.r<1000) :
 Br (OA d.s d.n d.C d.r d.m d.R n3 V (A0 d.R (V 0).m (V 0).s d.r))=true:=by
 obtain⟨h1,h2,h3,h4,h5,-⟩:=CF h;have hS:=Sd.of h;have hn:n3=d.n:=by
  unfold BA at ht;simp only [VO,decide_eq_true_eq] at ht
  exact ht.1
 have hty:∀ j,j<n3->(V j).o=(d.C j).t:=λj hj=>IK ht hj;have hx:Kt (d.C 0).t ((n3,V):Rw):=⟨JY (hV 0 (by omega)),hty 0 (by omega)⟩;obtain⟨p,hp⟩:∃ p,A0 d.R (V 0).m (V 0).s d.r=p:=⟨_,rfl⟩;obtain⟨q1,q2⟩:=Is hS hx (VD d.r);have hpl:p<=d.r:=by rw [←hp];exact Dc
 dsimp only at q1 q2
 rw [hp] at q1 q2 hno ⊢;have e:TdE (OA d.s d.n d.C d.r d.m d.R n3 V p) (CA d.s d.n d.C ((CN d.r d.m d.R).take p ++ ((n3,V):Rw) :: (CN d.r d.m d.R).drop p)):=⟨rfl,rfl,rfl,by
  rw [Ij,←IU hpl];rfl⟩
 rw [Pb e];have hup:∀ i,p<=i->i<d.r->Ao ((n3,V):Rw) (d.m i,d.R i)<0:=λi hi hir=>by
  have hlt:p<d.r:=by omega
  have z:Ao ((n3,V):Rw) (d.m p,d.R p)<0:=by
   rcases F6 (hS.kt p hlt) hx with z | z | z
   · exact absurd z.1 (q2 hlt)
   · exact absurd ⟨hlt,z.1⟩ hno
   · exact z.2
  by_cases e:i=p
  · subst e;exact z
  · exact Fl hx (hS.kt p hlt) (hS.kt i hir) z (hS.lt p i (by omega) hir)
 refine I1 h1 ⟨h2,h3⟩ h5 ?_ (λx hx=>?_) ?_
 ·
  simp only [VJ,VY,List.length_cons,List.length_drop,Cf]
  omega
 ·
  rcases List.mem_append.1 hx with hx | hx
  · exact Ip h x (List.mem_of_mem_take hx)
  ·
   rcases List.mem_cons.1 hx with rfl | hx
   · exact⟨hn,λj hj=>MO (JQ h5 hj) (hV j (by omega)) (hty j (by omega))⟩
   · exact Ip h x (List.mem_of_mem_drop hx)
 ·
  have hs:=List.pairwise_append.1 (show ((CN d.r d.m d.R).take p ++ (CN d.r d.m d.R).drop p).Pairwise _ by rw [List.take_append_drop];exact hS.pw);refine List.pairwise_append.2 ⟨hs.1,List.pairwise_cons.2 ⟨λy hy=>?_,hs.2.1⟩,λx hx y hy=>?_⟩
  ·
   obtain⟨q,hq,rfl⟩:=List.getElem_of_mem hy;rw [List.length_drop,Cf] at hq;have e:((CN d.r d.m d.R).drop p)[q]'(by rw [List.length_drop,Cf];exact hq)=(d.m (p+q),d.R (p+q)):=by simp [CN]
   rw [e];exact hup (p+q) (by omega) (by omega)
  ·
   rcases List.mem_cons.1 hy with rfl | hy
   ·
    obtain⟨q,hq,rfl⟩:=List.getElem_of_mem hx;rw [VY,Cf] at hq;have e:((CN d.r d.m d.R).take p)[q]'(by rw [VY,Cf];exact hq)=(d.m q,d.R q):=by simp [CN]
    rw [e];exact q1 q (by omega)
   · exact hs.2.2 x hx y hy
theorem Ge:Da CK ⟨#[]⟩=true:=rfl
theorem PG{a b:ByteArray}(ha:Da CK a=true)(hb:Da CK b=true):Da CK (a ++ b)=true:=by
 unfold Da at ha hb ⊢;rw [show (a ++ b).data.toList=a.data.toList ++ b.data.toList by simp,List.all_append,ha,hb];rfl
theorem QE(o:Int)(x y:Itm)(hx:Da CK x.s=true)(hy:Da CK y.s=true):Da CK (C8 o x y).s=true:=by
 unfold C8 Kf;repeat' split
 all_goals first | exact Ge | exact PG hx hy
theorem Qh{C:Nat->Clm}{n:Nat}{R I:Nat->Itm}{m:Nat}{x:Int}(hR:∀ j,j<n->Da CK (R j).s=true)(hx:ex I m=ς x):∀ k,k<=m->∀ y∈vl C n R I k,Da CK y.s=true:=by
 intro k;induction k with
 | zero=>intro _ y hy;simp [vl] at hy
 | succ k ih=>
  intro hk y hy;rw [vl] at hy;rcases List.mem_append.1 hy with h | h
  · exact ih (by omega) y (List.mem_of_mem_take h)
  ·
   rw [List.mem_singleton] at h;subst h;obtain⟨d,-,hok,-⟩:=GT hx (show k<m by omega);have ih':=ih (by omega);unfold FC;split
   · exact Ge
   split
   ·
    rename_i h2
    rw [h2] at hok;simp [Aq,Bn,A6] at hok
    exact hok.2.2
   split
   ·
    rcases hc:BF C (I k).s n with _ | j
    · exact Ge
    · exact hR j (Bz hc).1
   ·
    have hg:∀ i,Da CK (((vl C n R I k).drop ((vl C n R I k).length - DZ (I k).o)).getD i d0).s=true:=λi=>by
     by_cases hi:i<((vl C n R I k).drop ((vl C n R I k).length - DZ (I k).o)).length
     · exact ih' _ (List.mem_of_mem_drop (Ae hi))
     · rw [List.getD_eq_getElem?_getD,List.getElem?_eq_none (by omega)];exact Ge
    exact QE _ _ _ (hg 0) (hg 1)
theorem MY{o m:Int}{s:ByteArray}{t:Int}(h:BB o m s t=true):Da CK s=true:=by
 unfold BB at h;simp only [VO] at h
 have h2:=h.2;split at h2
 · have e:s=⟨#[]⟩:=LJ (by simpa using h2);rw [e];rfl
 ·
  simp only [VO,A6] at h2
  exact h2.2.2
theorem LE{x:Itm}{t:Int}(ht:C9 t=true)(hv:Bu x)(ho:x.o=t)(hx:Da CK x.s=true)(hz:x.s.size<=200):BB x.o x.m x.s t=true:=by
 rw [DK ht];simp only [VO,beq_iff_eq,Gr,Bool.or_eq_true,decide_eq_true_eq]
 refine⟨?_,ho⟩;rcases hv with ⟨v1,v2⟩ | ⟨v1,v2⟩
 ·
  right
  exact⟨v1,by rw [v2];rfl⟩
 ·
  left
  unfold Aa A6;rw [v1,v2,hx];simp
  omega
theorem R7{d:Td}(h:Br d=true){q:Nat}(hq:q<d.n){E W:Nat->Itm}{n5 n6:Nat}(hE:ex E n5=ς 1)(hu:Ke d.C d.n q E n5 W n6=0)
 (hb:DY d.C d.n d.R E n5 W n6 d.r=false) (hd:Cc (Av d.n d.C d.r d.m d.R q E n5 W n6) d.r=false):Br (CA d.s d.n d.C (Av d.n d.C d.r d.m d.R q E n5 W n6))=true:=by
 obtain⟨h1,h2,h3,h4,h5,-⟩:=CF h;obtain⟨hc1,hc2,-⟩:=NG hu;have hck:=FO hc1;have hg:=Dt h;have hch:∀ x∈JS d.C d.n d.m d.R q E n5 W n6 d.r,x.1=d.n/\∀ j,j<d.n->BB (x.2 j).o (x.2 j).m (x.2 j).s (d.C j).t=true:=λx hx=>by
  rw [Hn] at hx;obtain⟨y,hy,rfl⟩:=List.mem_map.1 hx;have hr:=Ip h y hy;split
  ·
   rename_i hf
   refine⟨hr.1,λj hj=>?_⟩;show BB (Ck y.2 q (Bv d.C d.n y.2 E n5) j).o (Ck y.2 q (Bv d.C d.n y.2 E n5) j).m (Ck y.2 q (Bv d.C d.n y.2 E n5) j).s _=true
   by_cases e:j=q
   ·
    subst e;rw [show Ck y.2 j (Bv d.C d.n y.2 E n5) j=Bv d.C d.n y.2 E n5 from if_pos rfl]
    obtain⟨i,hi,rfl⟩:=Ce hy;obtain⟨hv,ho⟩:=NF (hg i hi) hE hck;rw [hc2] at ho;refine LE (JQ h5 hj) hv ho ?_ ?_
    ·
     have hl:=EE (C:=d.C) (n:=d.n) (R:=d.R i) hE;have hm:Bv d.C d.n (d.R i) E n5∈vl d.C d.n (d.R i) E n5:=by unfold Bv;exact Ae (by omega)
     exact Qh (λk hk=>MY (hr.2 k hk)) hE n5 (VD _) _ hm
    · rw [Fz d.C d.n d.m,List.any_eq_false] at hb;have:=hb (d.m i,d.R i) (by rw [He];exact List.mem_filter.2 ⟨hy,hf⟩);simpa [Ho] using this
   ·
    rw [show Ck y.2 q (Bv d.C d.n y.2 E n5) j=y.2 j from if_neg e]
    exact hr.2 j hj
  · exact hr
 have hkt:∀ x∈JS d.C d.n d.m d.R q E n5 W n6 d.r,Kt (d.C 0).t x:=λx hx=>by
  have z:=(hch x hx).2 0 h2;rw [DK (JQ h5 h2)] at z;simp only [VO,beq_iff_eq,Gr,Bool.or_eq_true,decide_eq_true_eq] at z
  refine⟨?_,z.2⟩;rcases z.1 with z | z
  · exact JY z
  · exact VV ⟨z.1,LJ z.2⟩
 have hl:(JS d.C d.n d.m d.R q E n5 W n6 d.r).length=d.r:=by rw [Hn,List.length_map,Cf]
 have hperm:=Cy d.r (JS d.C d.n d.m d.R q E n5 W n6 d.r);have hl2:(Av d.n d.C d.r d.m d.R q E n5 W n6).length=d.r:=hperm.length_eq.trans hl;have hsort:=EF d.r (JS d.C d.n d.m d.R q E n5 W n6 d.r) (by omega) hkt;refine I1 h1 ⟨h2,h3⟩ h5 (by omega) (λx hx=>hch x (hperm.mem_iff.1 hx)) ?_;exact(AaC (λx hx=>hkt x (hperm.mem_iff.1 hx)) hsort).1 (by rw [show (Hu d.r (JS d.C d.n d.m d.R q E n5 W n6 d.r)).length=d.r from hl2];exact hd)
theorem I6{T:Nat->Td}{n:Nat}(h:A2 n T=true)(s:ByteArray):∃ i,Rx T n s i:=by
 have key:∀ m,m<=n->∃ i,Rx T m s i:=by
  intro m;induction m with
  | zero=>exact λ_=>⟨0,VD _,λk hk=>by omega,λk _ hk=>by omega⟩
  | succ m ih=>
   intro hm;obtain⟨i,h1,h2,h3⟩:=ih (by omega);by_cases e:i=m
   ·
    subst e;rcases hb:Va (T i).s.toList s.toList
    ·
     exact⟨i,by omega,h2,λk hk hk2=>by
      obtain rfl:k=i:=by omega
      exact hb⟩
    ·
     exact⟨i+1,VD _,λk hk=>by
      by_cases e:k=i
      · subst e;exact hb
      · exact h2 k (by omega),λk hk hk2=>by omega⟩
   ·
    refine⟨i,by omega,h2,λk hk hk2=>?_⟩;by_cases e2:k=m
    ·
     subst e2;rcases hb:Va (T k).s.toList s.toList
     · rfl
     · have z:=h3 i (VD _) (by omega);rw [DP _ _ _ (Cw h k i (by omega) (by omega)) hb] at z;cases z
    · exact h3 k hk (by omega)
 exact key n (VD _)
theorem O6{n:Nat}{T:Nat->Td}{d:St}(h:A2 n T=true)(hs:AK d=true):PA (Bf n T d).1=true/\n<=(Bf n T d).1.length:=by
 have hsame:PA (Ap T n)=true/\n<=(Ap T n).length:=⟨by rw [RK];exact h,by rw [AY];exact VD _⟩;have hset:∀ {j:Nat} {x:Td},j<n->(T j).s=x.s->Br x=true->PA (DB T x n)=true/\n<=(DB T x n).length:=λ{j x} hj hx ho=>by
  rw [Gb hj hx (Cw h)];refine⟨Qt h hj ho hx,?_⟩;simp only [VJ,VY,List.length_cons,List.length_drop,AY]
  omega
 unfold Bf;rw [if_neg (by rw [h];simp),if_neg (by rw [hs];simp)];by_cases k1:d.k=1
 ·
  rw [if_pos k1];unfold FL;split
  · exact hsame
  rename_i c1
  split
  · exact hsame
  rename_i c2
  split
  · exact hsame
  rename_i c3
  have hd:DW d.C d.n2=true:=by rcases e:DW d.C d.n2 <;> simp_all
  have hno:∀ k,k<n->(T k).s≠d.tb:=Dp (by rcases e:An T d.tb n with _ | j <;> simp_all);obtain⟨i,hi⟩:=I6 h d.tb;have hn:n<=100:=(Ax h).1;rw [Gc (d:=⟨d.tb,d.n2,d.C,0,λ_=>0,λ_ _=>d0⟩) hi hno];refine⟨Ra h (by omega) (Tq hs k1 hd) hi hno,?_⟩;have:=hi.1;simp only [VJ,VY,List.length_cons,List.length_drop,AY]
  omega
 rw [if_neg k1];rcases ht:An T d.tb n with _ | j
 · exact hsame
 obtain⟨hj,hjs⟩:=A4 ht;have hok:=(Ax h).2 j hj;dsimp only
 by_cases k2:d.k=2
 ·
  rw [if_pos k2];unfold Gi;split
  · exact hsame
  rename_i c1
  split
  · exact hsame
  rename_i c2
  split
  · exact hsame
  rename_i c3
  have hV:∀ i,i<d.n3->Aa (d.V i).o (d.V i).m (d.V i).s=true:=λi hi=>by
   have:=Bx hs;unfold BR at this;rw [if_neg (by omega),if_pos k2] at this;simp only [VO] at this
   exact CE this.2 hi
  have hr:=(CF hok).2.2.2.1;exact hset hj rfl (S8 hok hV (by rcases e:BA d.n3 (T j).n d.V (T j).C <;> simp_all) c2 (by omega))
 rw [if_neg k2];by_cases k3:d.k=3
 ·
  rw [if_pos k3];unfold Gd;rcases hq:BF (T j).C d.col (T j).n with _ | q
  · exact hsame
  dsimp only
  split
  · exact hsame
  rename_i c1
  split
  · exact hsame
  rename_i c2
  split
  · exact hsame
  rename_i c3
  obtain⟨-,-,hE⟩:=BX (Lg hs k3).1;exact hset hj rfl (R7 hok (Bz hq).1 hE (by simpa using c1) (by simpa using c2) (by simpa using c3))
 rw [if_neg k3];by_cases k4:d.k=4
 ·
  rw [if_pos k4];unfold JO;split
  · exact hset hj rfl (Tp hok _ _)
  · exact hsame
 rw [if_neg k4];exact hsame
set_option maxHeartbeats 16000000
structure RgD(D:St):Prop where
 v:∀ i,i<D.n3->rg (D.V i).m
 e:∀ i,i<D.n5->rg (D.E i).m
theorem Ns{o m:Int}{s:ByteArray}(h:Aa o m s=true):Bu ⟨o,m,s⟩:=by
 unfold Aa at h;simp only [Bool.or_eq_true,VO,beq_iff_eq,decide_eq_true_eq] at h
 rcases h with ⟨⟨h1,-⟩,h2⟩ | ⟨⟨h1,h2⟩,-⟩
 ·
  refine VV ⟨h1,?_⟩;show s=⟨#[]⟩
  rcases s with ⟨⟨L⟩⟩
  cases L
  · rfl
  · simp [ByteArray.size] at h2
 · exact Vb ⟨h1,h2⟩
theorem Ui(lo g n:Nat)(A:List Tb)(T:Nat->Td)(tb:ByteArray)(a2:Option Addr)(n2 c2:Nat)(a3:Option Addr)(n3 c3:Nat)(col:ByteArray)(a5:Option Addr)(n5 c5:Nat)(a6:Option Addr)(n6 c6:Nat)(a7:Option Addr)(n7 c7:Nat)(C:Nat->Clm)(w:ο)(hH:Ah lo g n A T w)(hcz:∀ cur,w.heap[g]?=ς (γ cur 67 (0,0))->cur.size=n * 3)(hC:CL w a2 n2 C)(h20:0<n2)(h2m:n2<=20) :
 VK μ 29 #[χ #[σ (ς ⟨g,0,ν⟩) n n],χ #[ι κ 1,τ tb,σ a2 n2 c2,σ a3 n3 c3,τ col,σ a5 n5 c5,σ a6 n6 c6,σ a7 n7 c7]] w (AnP lo w (FL T n tb n2 C).1 (FL T n tb n2 C).2):=by
 have hbU:υ w.heap.size w (((w.alloc (γ #[σ (ς ⟨g,0,ν⟩) n n] 28)).alloc (γ #[ι κ 1,τ tb,σ a2 n2 c2,σ a3 n3 c3,τ col,σ a5 n5 c5,σ a6 n6 c6,σ a7 n7 c7] 34)).alloc (γ #[σ ν 0 0] 28)):=Ay _ _ _ _;have hs1:(w.alloc (γ #[σ (ς ⟨g,0,ν⟩) n n] 28)).heap.size=w.heap.size+1:=ω _ _;have hs2:((w.alloc (γ #[σ (ς ⟨g,0,ν⟩) n n] 28)).alloc (γ #[ι κ 1,τ tb,σ a2 n2 c2,σ a3 n3 c3,τ col,σ a5 n5 c5,σ a6 n6 c6,σ a7 n7 c7] 34)).heap.size=w.heap.size+1+1:=by rw [ω,hs1]
 have hs3:(((w.alloc (γ #[σ (ς ⟨g,0,ν⟩) n n] 28)).alloc (γ #[ι κ 1,τ tb,σ a2 n2 c2,σ a3 n3 c3,τ col,σ a5 n5 c5,σ a6 n6 c6,σ a7 n7 c7] 34)).alloc (γ #[σ ν 0 0] 28)).heap.size=w.heap.size+1+1+1:=by rw [ω,hs2]
 have hq0:(((w.alloc (γ #[σ (ς ⟨g,0,ν⟩) n n] 28)).alloc (γ #[ι κ 1,τ tb,σ a2 n2 c2,σ a3 n3 c3,τ col,σ a5 n5 c5,σ a6 n6 c6,σ a7 n7 c7] 34)).alloc (γ #[σ ν 0 0] 28)).heap[w.heap.size]?=ς (γ #[σ (ς ⟨g,0,ν⟩) n n] 28 (0,0)):=AC (AC (η w _) (AD _ _)) (AD _ _);have hq1:(((w.alloc (γ #[σ (ς ⟨g,0,ν⟩) n n] 28)).alloc (γ #[ι κ 1,τ tb,σ a2 n2 c2,σ a3 n3 c3,τ col,σ a5 n5 c5,σ a6 n6 c6,σ a7 n7 c7] 34)).alloc (γ #[σ ν 0 0] 28)).heap[w.heap.size+1]?=ς (γ #[ι κ 1,τ tb,σ a2 n2 c2,σ a3 n3 c3,τ col,σ a5 n5 c5,σ a6 n6 c6,σ a7 n7 c7] 34 (0,0)):=by
  have z:=AC (η (w.alloc (γ #[σ (ς ⟨g,0,ν⟩) n n] 28)) (γ #[ι κ 1,τ tb,σ a2 n2 c2,σ a3 n3 c3,τ col,σ a5 n5 c5,σ a6 n6 c6,σ a7 n7 c7] 34)) (AD _ (γ #[σ ν 0 0] 28));rw [hs1] at z;exact z
 have hq2:(((w.alloc (γ #[σ (ς ⟨g,0,ν⟩) n n] 28)).alloc (γ #[ι κ 1,τ tb,σ a2 n2 c2,σ a3 n3 c3,τ col,σ a5 n5 c5,σ a6 n6 c6,σ a7 n7 c7] 34)).alloc (γ #[σ ν 0 0] 28)).heap[w.heap.size+1+1]?=ς (γ #[σ ν 0 0] 28 (0,0)):=by
  have z:=η ((w.alloc (γ #[σ (ς ⟨g,0,ν⟩) n n] 28)).alloc (γ #[ι κ 1,τ tb,σ a2 n2 c2,σ a3 n3 c3,τ col,σ a5 n5 c5,σ a6 n6 c6,σ a7 n7 c7] 34)) (γ #[σ ν 0 0] 28);rw [hs2] at z;exact z
 obtain⟨p0,-⟩:=AG hq0;obtain⟨x0_,x1_,x2_,x3_,x4_,x5_,x6_,x7_⟩:=AJ hq1;have hlo:=hH.hlo;have HCR:=OJ (lo) g n A T 1 tb a2 n2 c2 a3 n3 c3 col a5 n5 c5 a6 n6 c6 a7 n7 c7 C (((w.alloc (γ #[σ (ς ⟨g,0,ν⟩) n n] 28)).alloc (γ #[ι κ 1,τ tb,σ a2 n2 c2,σ a3 n3 c3,τ col,σ a5 n5 c5,σ a6 n6 c6,σ a7 n7 c7] 34)).alloc (γ #[σ ν 0 0] 28)) (hH.db.later hbU) hH.al hH.tof (λcur hc=>hcz cur (((hbU.block g (hH.db.2 g List.mem_cons_self).2).symm).trans hc)) hH.sm hH.ok hH.n (hC.later hbU) h20 h2m (VX hH.hlo hbU.size);generalize FL T n tb n2 C=cr at HCR ⊢;have hgw:=(hH.db.2 g List.mem_cons_self).2;have HDB:Hid (∀ b∈g :: A.flatMap Tb.bl,b<w.heap.size):=λb hb=>(hH.db.2 b hb).2;go_enter Tryz.func29,Tryz.ntmps29
 go_wp2_with (first | (go_at_call 71;refine HCR.mono ?_;rintro e w1 ⟨g1,c1,B,rfl,hD1,hB1,hT1,hb1,hcl,hfr⟩;have r2_:w1.heap[w.heap.size+1+1]?=ς (γ #[σ ν 0 0] 28 (0,0)):=(hfr _ (by omega) (by omega)).trans hq2;obtain⟨u0_,uf0_⟩:=AG r2_) | go_in)
 refine VE (AE Tryz.results29 _ _ (w.heap.size+1+1) 28 _ (0,0) _ rfl (BW r2_ _) Tryz.underlying28 rfl (by kernel_rfl)) rfl ?_;refine⟨g1,c1,B,rfl,hD1.allN (BlkX.set _ 0 w1 _) (λhm=>?_),hB1,hT1,?_⟩
 · have:=HDB.out _ (hcl _ hm (by omega));omega
 · exact((hbU.mono hlo).trans hb1).setCell (show lo<=w.heap.size+1+1 by omega) _
theorem Tj(lo g n:Nat)(A:List Tb)(T:Nat->Td)(k0:Int)(tb:ByteArray)(a2:Option Addr)(n2 c2:Nat)(a3:Option Addr)(n3 c3:Nat)(col:ByteArray)(a5:Option Addr)(n5 c5:Nat)(a6:Option Addr)(n6 c6:Nat)(a7:Option Addr)(n7 c7:Nat)(C:Nat->Clm)(V E W:Nat->Itm)(m7:Nat->Nat)(O:Nat->Nat->Itm)(D:St)(hD:(⟨k0,tb,n2,C,n3,V,col,n5,E,n6,W,n7,m7,O⟩:St)=D)(w:ο)(hH:Ah lo g n A T w)(hcz:∀ cur,w.heap[g]?=ς (γ cur 67 (0,0))->cur.size=n * 3)(hS:SM w ⟨k0,tb,n2,C,n3,V,col,n5,E,n6,W,n7,m7,O⟩ ⟨a2,c2,a3,c3,a5,c5,a6,c6,a7,c7⟩)(hok:AK D=true)(hR:RgD D) :
 VK μ 29 #[χ #[σ (ς ⟨g,0,ν⟩) n n],χ #[ι κ k0,τ tb,σ a2 n2 c2,σ a3 n3 c3,τ col,σ a5 n5 c5,σ a6 n6 c6,σ a7 n7 c7]] w (AnP lo w (Bf n T D).1 (Bf n T D).2):=by
 have hk:=Ng hok;subst hD;have hap:∀ A:List Td×Int,(if k0=1 then FL T n tb n2 C else match An T tb n with
  | none=>(Ap T n,1)
  | some j=>if k0=2 then Gi T n (T j).s (T j).n (T j).C (T j).r (T j).m (T j).R n3 V
   else if k0=3 then Gd T n (T j).s (T j).n (T j).C (T j).r (T j).m (T j).R col E n5 W n6
   else if k0=4 then JO T n (T j).s (T j).n (T j).C (T j).r (T j).m (T j).R W n6
   else (Ap T n,Hv (T j).C (T j).n m7 O n7 W n6))=A->Bf n T ⟨k0,tb,n2,C,n3,V,col,n5,E,n6,W,n7,m7,O⟩=A:=λA h=>by
  rw [←h];unfold Bf;rw [hH.ok,hok,if_neg (by simp),if_neg (by simp)];rfl
 simp only at hk
 rcases hk with rfl | rfl | rfl | rfl | rfl
 · have h1:=QT hok rfl;rw [hap (FL T n tb n2 C) (if_pos rfl)];exact Ui lo g n A T tb a2 n2 c2 a3 n3 c3 col a5 n5 c5 a6 n6 c6 a7 n7 c7 C w hH hcz hS.co h1.1 h1.2
 ·
  have h2:=QS hok rfl;have h6:=Nt hok (by show (2:Int)<3;omega);have hg:∀ j,j<n3->Bu (V j):=λj hj=>by
   have z:=Bx hok;unfold BR at z;simp only [if_neg (by omega:¬(2:Int)=1),if_pos,VO] at z
   exact Ns (CE z.2 hj)
  have z:=Uh lo g n A T tb a2 n2 c2 a3 n3 c3 col a5 n5 c5 a6 n6 c6 a7 n7 c7 V W w hH hS.va hS.wh h6 h2.1 h2.2.1 hg (hR.v 0 h2.1);rw [hap _ (show _=(match An T tb n with | none=>(Ap T n,1) | some j=>Gi T n (T j).s (T j).n (T j).C (T j).r (T j).m (T j).R n3 V) from by rw [if_neg (by omega)];rcases An T tb n with _ | j <;> rfl)]
  exact z
 ·
  have h3:=Lg hok rfl;have z:=Ug lo g n A T tb a2 n2 c2 a3 n3 c3 col a5 n5 c5 a6 n6 c6 a7 n7 c7 E W w hH hS.ex hS.wh h3.1 h3.2 hS.col hR.e;rw [hap _ (show _=(match An T tb n with | none=>(Ap T n,1) | some j=>Gd T n (T j).s (T j).n (T j).C (T j).r (T j).m (T j).R col E n5 W n6) from by rw [if_neg (by omega)];rcases An T tb n with _ | j <;> rfl)]
  exact z
 ·
  have h4:=Nh hok rfl;have z:=Uf lo g n A T tb a2 n2 c2 a3 n3 c3 col a5 n5 c5 a6 n6 c6 a7 n7 c7 W w hH hS.wh h4;rw [hap _ (show _=(match An T tb n with | none=>(Ap T n,1) | some j=>JO T n (T j).s (T j).n (T j).C (T j).r (T j).m (T j).R W n6) from by rw [if_neg (by omega)];rcases An T tb n with _ | j <;> rfl)]
  exact z
 ·
  have h5:=IS hok rfl;have z:=Ue lo g n A T tb a2 n2 c2 a3 n3 c3 col a5 n5 c5 a6 n6 c6 a7 n7 c7 W m7 O w hH hS.ou hS.wh hS.l7 h5.2.2.1 h5.2.2.2;rw [hap _ (show _=(match An T tb n with | none=>(Ap T n,1) | some j=>(Ap T n,Hv (T j).C (T j).n m7 O n7 W n6)) from by rw [if_neg (by omega)];rcases An T tb n with _ | j <;> rfl)]
  exact z
def Uz(w:ο)(n:Nat)(T:Nat->Td)(D:St)(e:Ending)(w':ο):Prop:=(A2 n T=true/\AK D=true/\AnP w.heap.size w (Bf n T D).1 (Bf n T D).2 e w')∨((A2 n T=false∨AK D=false)/\e=ρ (θ #[χ #[σ ν 0 0],ι κ 7])/\υ w.heap.size w w')
theorem Nd{w w':ο}{B q:Nat}{o:Obj}(h:w.heap[q]?=ς o)(hb:υ B w w')(hq:q<B):w'.heap[q]?=ς o:=(hb.block q hq).trans h
theorem Rk(a:Option Addr)(n c:Nat)(T:Nat->Td)(k0:Int)(tb:ByteArray)(a2:Option Addr)(n2 c2:Nat)(a3:Option Addr)(n3 c3:Nat)(col:ByteArray)(a5:Option Addr)(n5 c5:Nat)(a6:Option Addr)(n6 c6:Nat)(a7:Option Addr)(n7 c7:Nat)(C:Nat->Clm)(V E W:Nat->Itm)(m7:Nat->Nat)(O:Nat->Nat->Itm)(D:St)(hD:(⟨k0,tb,n2,C,n3,V,col,n5,E,n6,W,n7,m7,O⟩:St)=D)(w:ο)(hSp:SpT w)(hT:TL w a n T)(hS:SM w ⟨k0,tb,n2,C,n3,V,col,n5,E,n6,W,n7,m7,O⟩ ⟨a2,c2,a3,c3,a5,c5,a6,c6,a7,c7⟩)(hn:n<=1048576)(hRg:∀ k,k<n->∀ i,i<(T k).r->∀ j,j<(T k).n->rg ((T k).R i j).m)(hRD:RgD D) :
 VK μ 7 #[χ #[σ a n c],χ #[ι κ k0,τ tb,σ a2 n2 c2,σ a3 n3 c3,τ col,σ a5 n5 c5,σ a6 n6 c6,σ a7 n7 c7]] w (Uz w n T D):=by
 have hbU:υ w.heap.size w (((w.alloc (γ #[σ a n c] 28)).alloc (γ #[ι κ k0,τ tb,σ a2 n2 c2,σ a3 n3 c3,τ col,σ a5 n5 c5,σ a6 n6 c6,σ a7 n7 c7] 34)).alloc (γ #[σ ν 0 0] 28)):=Ay _ _ _ _;have hs1:(w.alloc (γ #[σ a n c] 28)).heap.size=w.heap.size+1:=ω _ _;have hs2:((w.alloc (γ #[σ a n c] 28)).alloc (γ #[ι κ k0,τ tb,σ a2 n2 c2,σ a3 n3 c3,τ col,σ a5 n5 c5,σ a6 n6 c6,σ a7 n7 c7] 34)).heap.size=w.heap.size+1+1:=by rw [ω,hs1]
 have hs3:(((w.alloc (γ #[σ a n c] 28)).alloc (γ #[ι κ k0,τ tb,σ a2 n2 c2,σ a3 n3 c3,τ col,σ a5 n5 c5,σ a6 n6 c6,σ a7 n7 c7] 34)).alloc (γ #[σ ν 0 0] 28)).heap.size=w.heap.size+1+1+1:=by rw [ω,hs2]
 have hq0:(((w.alloc (γ #[σ a n c] 28)).alloc (γ #[ι κ k0,τ tb,σ a2 n2 c2,σ a3 n3 c3,τ col,σ a5 n5 c5,σ a6 n6 c6,σ a7 n7 c7] 34)).alloc (γ #[σ ν 0 0] 28)).heap[w.heap.size]?=ς (γ #[σ a n c] 28 (0,0)):=AC (AC (η w _) (AD _ _)) (AD _ _);have hq1:(((w.alloc (γ #[σ a n c] 28)).alloc (γ #[ι κ k0,τ tb,σ a2 n2 c2,σ a3 n3 c3,τ col,σ a5 n5 c5,σ a6 n6 c6,σ a7 n7 c7] 34)).alloc (γ #[σ ν 0 0] 28)).heap[w.heap.size+1]?=ς (γ #[ι κ k0,τ tb,σ a2 n2 c2,σ a3 n3 c3,τ col,σ a5 n5 c5,σ a6 n6 c6,σ a7 n7 c7] 34 (0,0)):=by
  have z:=AC (η (w.alloc (γ #[σ a n c] 28)) (γ #[ι κ k0,τ tb,σ a2 n2 c2,σ a3 n3 c3,τ col,σ a5 n5 c5,σ a6 n6 c6,σ a7 n7 c7] 34)) (AD _ (γ #[σ ν 0 0] 28));rw [hs1] at z;exact z
 have hq2:(((w.alloc (γ #[σ a n c] 28)).alloc (γ #[ι κ k0,τ tb,σ a2 n2 c2,σ a3 n3 c3,τ col,σ a5 n5 c5,σ a6 n6 c6,σ a7 n7 c7] 34)).alloc (γ #[σ ν 0 0] 28)).heap[w.heap.size+1+1]?=ς (γ #[σ ν 0 0] 28 (0,0)):=by
  have z:=η ((w.alloc (γ #[σ a n c] 28)).alloc (γ #[ι κ k0,τ tb,σ a2 n2 c2,σ a3 n3 c3,τ col,σ a5 n5 c5,σ a6 n6 c6,σ a7 n7 c7] 34)) (γ #[σ ν 0 0] 28);rw [hs2] at z;exact z
 have HDB:=Uw a n c T (((w.alloc (γ #[σ a n c] 28)).alloc (γ #[ι κ k0,τ tb,σ a2 n2 c2,σ a3 n3 c3,τ col,σ a5 n5 c5,σ a6 n6 c6,σ a7 n7 c7] 34)).alloc (γ #[σ ν 0 0] 28)) (hSp.later hbU) (hT.later hbU) hn;have HST:Hid (∀ v,υ w.heap.size w v->VK μ 28 #[χ #[ι κ k0,τ tb,σ a2 n2 c2,σ a3 n3 c3,τ col,σ a5 n5 c5,σ a6 n6 c6,σ a7 n7 c7]] v λe w'=>e=ρ (β (AK D))/\υ v.heap.size v w'):=λv hv=>by
  have z:=Uc ⟨k0,tb,n2,C,n3,V,col,n5,E,n6,W,n7,m7,O⟩ ⟨a2,c2,a3,c3,a5,c5,a6,c6,a7,c7⟩ v (hS.later hv) (hSp.later hv);have e:AK ⟨k0,tb,n2,C,n3,V,col,n5,E,n6,W,n7,m7,O⟩=AK D:=by rw [hD]
  rw [e] at z;exact z
 have HD:Hid ((⟨k0,tb,n2,C,n3,V,col,n5,E,n6,W,n7,m7,O⟩:St)=D):=hD;clear hD;obtain⟨p0,-⟩:=AG hq0;obtain⟨x0_,x1_,x2_,x3_,x4_,x5_,x6_,x7_⟩:=AJ hq1;rcases hdb:A2 n T
 ·
  rw [hdb] at HDB;go_enter Tryz.func7,Tryz.ntmps7
  go_wp2_with (first | (go_at_call 27;refine HDB.mono ?_;rintro e w1 ⟨rfl,hb1⟩;obtain⟨u0_,uf0_⟩:=AG (AC hq2 hb1)) | go_in)
  refine VE (AE Tryz.results7 _ _ (w.heap.size+1+1) 28 _ (0,0) _ rfl (BW (AC hq2 hb1) _) Tryz.underlying28 rfl (by kernel_rfl)) rfl ?_;exact Vb ⟨VV hdb,rfl,Bg (AA hbU hb1) (by omega)⟩
 rcases hst:AK D
 ·
  rw [hdb] at HDB;rw [hst] at HST;go_enter Tryz.func7,Tryz.ntmps7
  go_wp2_with (first | (go_at_call 27;refine HDB.mono ?_;rintro e w1 ⟨rfl,hb1⟩;obtain⟨j0_,j1_,j2_,j3_,j4_,j5_,j6_,j7_⟩:=AJ (AC hq1 hb1)) | (go_at_call 28;refine(HST.out _ (AA hbU hb1)).mono ?_;rintro e w2 ⟨rfl,hb2⟩;have s2_:=AC (AC hq2 hb1) hb2;obtain⟨u0_,uf0_⟩:=AG s2_) | go_in)
  refine VE (AE Tryz.results7 _ _ (w.heap.size+1+1) 28 _ (0,0) _ rfl (BW s2_ _) Tryz.underlying28 rfl (by kernel_rfl)) rfl ?_;exact Vb ⟨Vb hst,rfl,Bg (AA (AA hbU hb1) hb2) (by omega)⟩
 ·
  rw [hdb] at HDB;rw [hst] at HST;have HANS:Hid (∀ e w',AnP w.heap.size w (Bf n T D).1 (Bf n T D).2 e w'->Uz w n T D e w'):=λe w' h=>VV ⟨hdb,hst,h⟩;go_enter Tryz.func7,Tryz.ntmps7
  go_wp2_with (first | (go_at_call 27;refine HDB.mono ?_;rintro e w1 ⟨rfl,hb1⟩;obtain⟨j0_,j1_,j2_,j3_,j4_,j5_,j6_,j7_⟩:=AJ (AC hq1 hb1)) | (go_at_call 28;refine(HST.out _ (AA hbU hb1)).mono ?_;rintro e w2 ⟨rfl,hb2⟩;have s0_:=AC (AC hq0 hb1) hb2;have s1_:=AC (AC hq1 hb1) hb2;have s2_:=AC (AC hq2 hb1) hb2;have hb02:=AA (AA hbU hb1) hb2;have hsz2:w.heap.size+1+1+1<=w2.heap.size:=(by have:=hb1.size;have:=hb2.size;omega)) | go_in)
  refine VH (S:=λx_=>x_.heap[w.heap.size]?=ς (γ #[σ a n c] 28 (0,0))/\x_.heap[w.heap.size+1]?=ς (γ #[ι κ k0,τ tb,σ a2 n2 c2,σ a3 n3 c3,τ col,σ a5 n5 c5,σ a6 n6 c6,σ a7 n7 c7] 34 (0,0))) (by kernel_rfl) (⟨s0_,s1_⟩) (λjH=>?_);have hbv:υ w.heap.size w w2.drew:=AA hb02 (Ar _);have hres:w2.drew.heap[w.heap.size+1+1]?=ς (γ #[σ ν 0 0] 28 (0,0)):=s2_;have hsv:w.heap.size+1+1+1<=w2.drew.heap.size:=hsz2;generalize w2.drew=v at jH hbv hres hsv ⊢;refine tk 0 jH ?_ (hy:=λx jS=>by obtain⟨Dl,-⟩:=AG jS.1;obtain⟨j0_,j1_,j2_,j3_,j4_,j5_,j6_,j7_⟩:=AJ jS.2;go_simp<;>rfl)
  try simp only [zS]
  refine tk 2 jH ?_ (hy:=λx jS=>by obtain⟨Dl,-⟩:=AG jS.1;obtain⟨j0_,j1_,j2_,j3_,j4_,j5_,j6_,j7_⟩:=AJ jS.2;go_simp<;>rfl)
  try simp only [zS]
  refine rd 1 (λK hK=>?_);go_simp;refine(TT a n c T v (hT.later hbv) (by have:=(Ax hdb).1;omega) (Ju hdb)).mono ?_;rintro e v1 ⟨g,A,rfl,hDA,hAl,hTO,hbl,hcz,hb1⟩;refine hK.out _ _ ⟨AC jH.1 hb1,AC jH.2 hb1⟩ (λjH=>?_);clear hK K;try simp only [zS]
  refine rd 3 (λK hK=>?_);have hAH:Ah v.heap.size g n A T v1:=⟨⟨hDA,hbl⟩,hAl,hTO,Sm3.of hT,hdb,hb1.size,hRg⟩;have HAP:=Tj v.heap.size g n A T k0 tb a2 n2 c2 a3 n3 c3 col a5 n5 c5 a6 n6 c6 a7 n7 c7 C V E W m7 O D HD.out v1 hAH hcz (hS.later (AA hbv hb1)) hst hRD;generalize Bf n T D=ap at HAP HANS;go_simp;refine HAP.mono ?_;rintro e v2 ⟨g2,cc2,B,rfl,hD2,hB2,hT2,hb2⟩;clear HAP;have hHeld2:=And.intro (Nd jH.1 hb2 (by omega)) (Nd jH.2 hb2 (by omega));refine hK.out _ _ hHeld2 (λjH=>?_);clear hK K;try simp only [zS]
  refine tk 4 jH ?_;refine tk 5 jH ?_
  try simp only [zS]
  refine rd 6 (λK hK=>?_);have hres2:=Nd (AC hres hb1) hb2 (by omega);obtain⟨m0_,mf_⟩:=AG hres2;go_simp;refine hK.out _ _ ⟨Af jH.1 (by omega),Af jH.2 (by omega)⟩ (λjH=>?_);clear hK K;try simp only [Act.put]
  refine tk 7 jH ?_
  try simp only [zS]
  refine VP (by kernel_rfl) ?_ _;go_wp2;refine VE (AE Tryz.results7 _ _ (w.heap.size+1+1) 28 _ (0,0) _ rfl (BW hres2 _) Tryz.underlying28 rfl (by kernel_rfl)) rfl ?_;refine HANS.out _ _ ⟨g2,cc2,B,rfl,?_,hB2,hT2,?_⟩
  · have h3:=hD2.allX (x:=w.heap.size+1+1) (BlkX.set _ 0 v2 (σ (ς ⟨g2,0,ν⟩) ap.1.length cc2)) (VV (by omega));exact⟨h3.1,λb hb=>⟨by have:=(h3.2 b hb).1;have:=hbv.size;omega,(h3.2 b hb).2⟩⟩
  · exact Bg (hbv.trans ((hb1.mono hbv.size).trans (hb2.mono hbv.size))) (by omega)
def ML(d:Td):Prop:=∀ i,i<d.r->∀ j,j<d.n->rg (d.R i j).m
theorem Nf{s:ByteArray}{n:Nat}{C:Nat->Clm}{A:List Rw}(h:∀ x∈A,∀ j,j<n->rg (x.2 j).m):ML (CA s n C A):=λ_ hi j hj=>h _ (Ae hi) j hj
theorem N0{n i j:Nat}{T:Nat->Td}{d:Td}(h:∀ k,k<n->ML (T k))(hd:ML d):∀ x∈(Ap T n).take i ++ d :: (Ap T n).drop j,ML x:=λx hx=>by
 have tl:∀ x∈Ap T n,ML x:=λx hx=>by
  obtain⟨k,hk,rfl⟩:=List.mem_map.1 hx;exact h k (List.mem_range.1 hk)
 rcases List.mem_append.1 hx with hx | hx
 · exact tl x (List.mem_of_mem_take hx)
 ·
  rcases List.mem_cons.1 hx with rfl | hx
  · exact hd
  · exact tl x (List.mem_of_mem_drop hx)
theorem Ty{n:Nat}{T:Nat->Td}{d:St}(h:A2 n T=true)(hs:AK d=true)(hr:∀ k,k<n->ML (T k))(hD:RgD d):∀ x∈(Bf n T d).1,ML x:=by
 have hsame:∀ x∈Ap T n,ML x:=λx hx=>by
  obtain⟨k,hk,rfl⟩:=List.mem_map.1 hx;exact hr k (List.mem_range.1 hk)
 have hset:∀ {j:Nat} {x:Td},j<n->(T j).s=x.s->ML x->∀ y∈DB T x n,ML y:=λ{j x} hj hx ho=>by
  rw [Gb hj hx (Cw h)];exact N0 hr ho
 unfold Bf;rw [if_neg (by rw [h];simp),if_neg (by rw [hs];simp)];by_cases k1:d.k=1
 ·
  rw [if_pos k1];unfold FL;split
  · exact hsame
  rename_i c1
  split
  · exact hsame
  split
  · exact hsame
  have hno:∀ k,k<n->(T k).s≠d.tb:=Dp (by rcases e:An T d.tb n with _ | j <;> simp_all);obtain⟨i,hi⟩:=I6 h d.tb;rw [Gc (d:=⟨d.tb,d.n2,d.C,0,λ_=>0,λ_ _=>d0⟩) hi hno];exact N0 hr (λi hi=>absurd hi (Vc _))
 rw [if_neg k1];rcases ht:An T d.tb n with _ | j
 · exact hsame
 obtain⟨hj,-⟩:=A4 ht;have hok:=(Ax h).2 j hj;have hrj:=hr j hj;dsimp only
 by_cases k2:d.k=2
 ·
  rw [if_pos k2];unfold Gi;split
  · exact hsame
  rename_i c1
  split
  · exact hsame
  split
  · exact hsame
  have hn:d.n3=(T j).n:=by
   rcases ht:BA d.n3 (T j).n d.V (T j).C
   · exact absurd ht c1
   ·
    unfold BA at ht;simp only [VO,decide_eq_true_eq] at ht
    exact ht.1
  refine hset hj rfl (λi hi q hq=>?_);exact Jl (P:=λx=>∀ q,q<(T j).n->rg (x.2 q).m) Dc (λk hk=>hrj k hk) (λq hq=>hD.v q (by omega)) i hi q hq
 rw [if_neg k2];by_cases k3:d.k=3
 ·
  rw [if_pos k3];unfold Gd;rcases hq:BF (T j).C d.col (T j).n with _ | q
  · exact hsame
  dsimp only
  split
  · exact hsame
  split
  · exact hsame
  split
  · exact hsame
  obtain⟨hE1,hE2,hE⟩:=BX (Lg hs k3).1;refine hset hj rfl (Nf (λx hx=>?_));have hx:=(Cy _ _).mem_iff.1 hx;rw [Hn] at hx;obtain⟨y,hy,rfl⟩:=List.mem_map.1 hx;obtain⟨i,hi,rfl⟩:=Ce hy;split
  ·
   intro p hp;show rg (Ck ((T j).R i) q (Bv (T j).C (T j).n ((T j).R i) d.E d.n5) p).m
   by_cases e:p=q
   ·
    subst e;rw [show Ck ((T j).R i) p (Bv (T j).C (T j).n ((T j).R i) d.E d.n5) p=Bv (T j).C (T j).n ((T j).R i) d.E d.n5 from if_pos rfl]
    exact NE (λk hk=>⟨hrj i hi k hk,(Bi hok).txt i hi k hk⟩) hD.e hE (by omega)
   ·
    rw [show Ck ((T j).R i) q (Bv (T j).C (T j).n ((T j).R i) d.E d.n5) p=(T j).R i p from if_neg e]
    exact hrj i hi p hp
  · exact λp hp=>hrj i hi p hp
 rw [if_neg k3];by_cases k4:d.k=4
 ·
  rw [if_pos k4];unfold JO;split
  · refine hset hj rfl (Nf (λx hx=>?_));rw [FN] at hx;obtain⟨i,hi,rfl⟩:=Ce (List.mem_filter.1 hx).1;exact λp hp=>hrj i hi p hp
  · exact hsame
 rw [if_neg k4];exact hsame
theorem O7{n:Nat}{T:Nat->Td}{d:St}(h:A2 n T=true)(hs:AK d=true)(hk:d.k=1)(hd:DW d.C d.n2=true)(hn:n<100)(hno:∀ k,k<n->(T k).s≠d.tb) :
 (Bf n T d).1.length=n+1/\∀ x∈(Bf n T d).1,x.s=d.tb∨∃ k,k<n/\x.s=(T k).s:=by
 have ht:An T d.tb n=ν:=by
  rcases e:An T d.tb n with _ | j
  · rfl
  · obtain⟨hj,hjs⟩:=A4 e;exact absurd hjs (hno j hj)
 obtain⟨i,hi⟩:=I6 h d.tb;have e:(Bf n T d).1=DB T ⟨d.tb,d.n2,d.C,0,λ_=>0,λ_ _=>d0⟩ n:=by
  unfold Bf;rw [if_neg (by rw [h];simp),if_neg (by rw [hs];simp),if_pos hk];unfold FL;rw [ht,hd,if_neg (by simp),if_neg (by simp),if_neg (by omega)]
 rw [e,Gc (d:=⟨d.tb,d.n2,d.C,0,λ_=>0,λ_ _=>d0⟩) hi hno];have:=hi.1;refine⟨by simp only [VJ,VY,List.length_cons,List.length_drop,AY];omega,λx hx=>?_⟩;have tl:∀ x∈Ap T n,∃ k,k<n/\x.s=(T k).s:=λx hx=>by
  obtain⟨k,hk,rfl⟩:=List.mem_map.1 hx;exact⟨k,List.mem_range.1 hk,rfl⟩
 rcases List.mem_append.1 hx with hx | hx
 · exact .inr (tl x (List.mem_of_mem_take hx))
 ·
  rcases List.mem_cons.1 hx with rfl | hx
  · exact .inl rfl
  · exact .inr (tl x (List.mem_of_mem_drop hx))
set_option maxHeartbeats 8000000
theorem Mq(a a':Option Addr)(n c c':Nat)(I:Nat->Itm)(w:ο)(h:IL w a n I)(h':IL w a' n I)(hn:n<=1048576) :
 VK μ 75 #[σ a n c,σ a' n c'] w λe w'=>e=ρ (β true)/\υ w.heap.size w w':=by
 have hb0:=VT w.heap.size w;go_enter Tryz.func75,Tryz.ntmps75
 go_wp2;go_loopw [13] (λi wr=>∃ k:Nat,k<=n/\i=ι κ k/\υ w.heap.size w wr) (λi _=>n - (VQ i).toNat)
 case atStart=>exact⟨0,by omega,rfl,hb0⟩
 case round=>
  obtain⟨k,hk,rfl,hb⟩:=hrel;by_cases hlt:k<n
  ·
   have hkk:(k:Int)<n:=by omega
   obtain⟨b,off,rfl,c0,c1,c2,_⟩:=h.later hb k hlt;obtain⟨b',off',rfl,e0,e1,e2,_⟩:=h'.later hb k hlt;have hq:=CG (I k).s;go_wp2;go_quiet (fail)
   go_wp2;go_roundw
   case rel=>exact⟨k+1,by omega,by go_num,AA hb (Qe _ _)⟩
   case measure=>simp [VQ];omega
  ·
   obtain rfl:k=n:=by omega
   go_wp2;go_ret
   exact⟨rfl,hb⟩
theorem LC(a a':Option Addr)(n c c':Nat)(m:Nat->Nat)(O:Nat->Nat->Itm)(w:ο)(h:OL w a n m O)(h':OL w a' n m O)(hn:n<=1048576) :
 VK μ 31 #[σ a n c,σ a' n c'] w λe w'=>e=ρ (β true)/\υ w.heap.size w w':=by
 have hb0:=VT w.heap.size w;go_enter Tryz.func31,Tryz.ntmps31
 go_wp2;go_loopw [13] (λi wr=>∃ k:Nat,k<=n/\i=ι κ k/\υ w.heap.size w wr) (λi _=>n - (VQ i).toNat)
 case atStart=>exact⟨0,by omega,rfl,hb0⟩
 case round=>
  obtain⟨k,hk,rfl,hb⟩:=hrel;by_cases hlt:k<n
  ·
   have hkk:(k:Int)<n:=by omega
   obtain⟨b,off,i,d,rfl,c0,hi,hm⟩:=h.later hb k hlt;obtain⟨b',off',i',d',rfl,c0',hi',-⟩:=h'.later hb k hlt;go_wp2;go_region_with (go_at_call 75;refine(Mq i i' _ d d' _ _ hi.drew hi'.drew hm).mono ?_;rintro e w1 ⟨rfl,hb1⟩)
   all_goals
    go_wp2;go_roundw
    case rel=>exact⟨k+1,by omega,by go_num,AA hb (BO hb1)⟩
    case measure=>simp [VQ];omega
  ·
   obtain rfl:k=n:=by omega
   go_wp2;go_ret
   exact⟨rfl,hb⟩
theorem Fr(a a':Option Addr)(n c c':Nat)(T:Nat->Td)(w:ο)(h:TL w a n T)(h':TL w a' n T)(hn:n<=1048576) :
 VK μ 8 #[χ #[σ a n c],χ #[σ a' n c']] w λe w'=>e=ρ (β true)/\υ w.heap.size w w':=by
 have hb0:=AA (AD w (γ #[σ a n c] 28)) (AD _ (γ #[σ a' n c'] 28));have h0:=h.later hb0;have h0':=h'.later hb0;have es:(w.alloc (γ #[σ a n c] 28)).heap.size=w.heap.size+1:=by simp
 have g0:=AB (AD _ (γ #[σ a' n c'] 28)) ((ε _ _ 0 _ _ _ (η w (γ #[σ a n c] 28))).trans (show _=ς (σ a n c) from rfl))
 have k0:=(ε _ _ 0 _ _ _ (η (w.alloc (γ #[σ a n c] 28)) (γ #[σ a' n c'] 28))).trans (show _=ς (σ a' n c') from rfl)
 rw [es] at k0;go_enter Tryz.func8,Tryz.ntmps8
 go_wp2;generalize hW:(w.alloc (γ #[σ a n c] 28)).alloc (γ #[σ a' n c'] 28)=W at *;go_loopw [19] (λi wr=>∃ k:Nat,k<=n/\i=ι κ k/\υ W.heap.size W wr) (λi _=>n - (VQ i).toNat)
 case atStart=>exact⟨0,by omega,rfl,VT _ _⟩
 case round=>
  obtain⟨k,hk,rfl,hb⟩:=hrel;have g1:=AB hb g0;have k1:=AB hb k0;by_cases hlt:k<n
  ·
   have hkk:(k:Int)<n:=by omega
   obtain⟨b,off,ac,cc,ar,cr,rfl,c0,c1,c2,hC,hO,hs⟩:=h0.later hb k hlt;obtain⟨b',off',ac',cc',ar',cr',rfl,e0,e1,e2,hC',hO',-⟩:=h0'.later hb k hlt;have hq:=CG (T k).s;have hn2:=hs.co.1;obtain⟨Z1,hZ1⟩:∃ Z,Obj.cells #[τ (T k).s,σ ac (T k).n cc,σ ar (T k).r cr] 67 (0,0)=Z:=⟨_,rfl⟩;obtain⟨Z2,hZ2⟩:∃ Z,Obj.cells #[τ (T k).s,σ ac' (T k).n cc',σ ar' (T k).r cr'] 67 (0,0)=Z:=⟨_,rfl⟩;have z1:=AD wr Z1;have f0:=AB z1 e0;have f1:=AB z1 e1;have f2:=AB z1 e2;have fk:=AB z1 k1;have z2:=AD (wr.alloc Z1) Z2;have es1:(wr.alloc Z1).heap.size=wr.heap.size+1:=by simp
   have r1:(wr.alloc Z1).heap[wr.heap.size]?=ς (γ #[τ (T k).s,σ ac (T k).n cc,σ ar (T k).r cr] 67 (0,0)):=by rw [hZ1];exact η _ _
   have r2:((wr.alloc Z1).alloc Z2).heap[wr.heap.size+1]?=ς (γ #[τ (T k).s,σ ac' (T k).n cc',σ ar' (T k).r cr'] 67 (0,0)):=by rw [hZ2,←es1];exact η _ _
   have r1':=AC r1 z2;have hO2:=hO.later (AA z1 z2);have hO2':=hO'.later (AA z1 z2);have hC2:=hC.later (AA z1 z2);have hC2':=hC'.later (AA z1 z2);subst hZ1 hZ2;go_wp2_with (go_at_call 31;refine(LC ar ar' (T k).r cr cr' (T k).m (T k).R _ hO2 hO2' hs.ro.1).mono ?_;rintro e w1 ⟨rfl,hb1⟩;have p1:=(ε _ _ 1 _ _ _ (AC r1' hb1)).trans (show _=ς (σ ac (T k).n cc) from rfl);have p2:=(ε _ _ 1 _ _ _ (AC r2 hb1)).trans (show _=ς (σ ac' (T k).n cc') from rfl);replace hC2:=hC2.later hb1;replace hC2':=hC2'.later hb1;replace hb1:=AA hb (AA (AA z1 z2) hb1))
   clear f0 f1 f2 fk z1 z2 r1 r2 r1' hO2 hO2' c0 c1 c2 e0 e1 e2 g1 k1 hO hO' hC hC';go_loopw [57] (λi wz=>∃ j:Nat,j<=(T k).n/\i=ι κ j/\υ w1.heap.size w1 wz) (λi _=>(T k).n - (VQ i).toNat)
   case atStart=>exact⟨0,by omega,rfl,VT _ _⟩
   case round=>
    obtain⟨j,hj,rfl,hbz⟩:=hrel;have p1':=AB hbz p1;have p2':=AB hbz p2;by_cases hjl:j<(T k).n
    ·
     have hjk:(j:Int)<(T k).n:=by omega
     obtain⟨bc,oc,rfl,d1,d2,_⟩:=hC2.later hbz j hjl;obtain⟨bc',oc',rfl,d1',d2',_⟩:=hC2'.later hbz j hjl;have hq2:=CG ((T k).C j).s;go_wp2;go_quiet (fail)
     go_wp2;go_roundw
     case rel=>exact⟨j+1,by omega,by go_num,AA hbz (Qe _ _)⟩
     case measure=>simp [VQ];omega
    ·
     obtain rfl:j=(T k).n:=by omega
     go_wp2;go_roundw
     case rel=>exact⟨k+1,by omega,by go_num,AA hb1 hbz⟩
     case measure=>simp [VQ];omega
  ·
   obtain rfl:k=n:=by omega
   go_wp2;go_ret
   exact⟨rfl,AA hb0 hb⟩
theorem Gu{T T':Nat->Td}{s:ByteArray}:∀ {n:Nat},(∀ k,k<n->(T' k).s=(T k).s)->An T' s n=An T s n
 | 0,_=>rfl
 | n+1,h=>by rw [An,An,Gu (λk hk=>h k (by omega)),h n (by omega)]
theorem Jh{C:Nat->Clm}{n:Nat}{R:Nat->Nat->Itm}{W:Nat->Itm}{n6:Nat}{m7:Nat->Nat}{O:Nat->Nat->Itm}{n7:Nat}:∀ {r:Nat},(∀ i,i<r->Bp C n (R i) W n6=false)->Gf C n R W n6 m7 O n7 r=[]/\Gy C n R W n6 m7 O n7 r=false
 | 0,_=>⟨rfl,rfl⟩
 | r+1,h=>by
  obtain⟨h1,h2⟩:=Jh (m7:=m7) (O:=O) (n7:=n7) (λi hi=>h i (Nat.lt_succ_of_lt hi));rw [Gf,Gy,h1,h2,h r (Nat.lt_succ_self r)];exact⟨rfl,rfl⟩
def Sp:Nat->Nat->Itm:=λ_ _=>⟨1,1,⟨#[]⟩⟩
def Kw(tb:ByteArray)(n6:Nat)(W:Nat->Itm):St:=⟨5,tb,0,λ_=>⟨⟨#[]⟩,0⟩,0,λ_=>d0,⟨#[]⟩,0,λ_=>d0,n6,W,1,λ_=>1,Sp⟩
theorem Pd{d:St}(h:AK d=true):AM d.tb=true:=by
 unfold AK at h;simp only [VO] at h
 exact h.1.1.1
theorem So{tb:ByteArray}{n6:Nat}{W:Nat->Itm}(h:AM tb=true)(hW:AI W n6=true):AK (Kw tb n6 W)=true:=by
 unfold AK Kw BR;dsimp only
 rw [h,if_neg (by omega),if_neg (by omega),if_neg (by omega),if_neg (by omega),if_pos rfl,hW];have e:GD ⟨5,tb,0,λ_=>⟨⟨#[]⟩,0⟩,0,λ_=>d0,⟨#[]⟩,0,λ_=>d0,n6,W,1,λ_=>1,Sp⟩=false:=rfl;rw [e];rfl
theorem Sn(C:Nat->Clm)(n:Nat):GJ C n (λ_=>1) Sp 1=0:=by
 unfold GJ;rw [if_pos (by unfold GJ;rfl)];unfold DA;have e:ck C n (Sp 0) 1=([1],0):=by
  rw [ck];simp [ck,MS,B7,Sp,DZ,AW]
 rw [e];simp
theorem Pe{T:Nat->Td}{n j:Nat}{x:Td}(hj:j<n):(∀ k,k<n->k≠j->((Ap T n).take j ++ x :: (Ap T n).drop (j+1)).getD k t0=T k)/\((Ap T n).take j ++ x :: (Ap T n).drop (j+1)).getD j t0=x/\((Ap T n).take j ++ x :: (Ap T n).drop (j+1)).length=n:=by
 have hl:((Ap T n).take j).length=j:=by rw [VY,AY];omega
 refine⟨λk hk hne=>?_,?_,?_⟩
 ·
  rw [List.getD_eq_getElem?_getD];by_cases h:k<j
  · rw [List.getElem?_append_left (by omega),List.getElem?_take_of_lt h];simp [Ap,hk]
  · obtain⟨q,rfl⟩:∃ q,k=j+1+q:=⟨k - (j+1),by omega⟩;rw [List.getElem?_append_right (by omega),hl,show j+1+q - j=q+1 by omega,List.getElem?_cons_succ,List.getElem?_drop];simp [Ap,hk]
 · rw [List.getD_eq_getElem?_getD,List.getElem?_append_right (by omega),hl,Nat.sub_self];rfl
 ·
  simp only [VJ,VY,List.length_cons,List.length_drop,AY]
  omega
theorem Oi{n:Nat}{T:Nat->Td}{d:St}(h:A2 n T=true)(hs:AK d=true)(hk:d.k=4)(hc:(Bf n T d).2=0) :
 A8 (Bf n T d).1.length (λi=>(Bf n T d).1.getD i t0) (Kw d.tb d.n6 d.W)=([],0):=by
 have hW:=Nh hs hk;have hokA:=(O6 h hs).1;unfold PA at hokA;have e:∃ j,An T d.tb n=ς j/\CM (T j).C (T j).n d.W d.n6=0/\(Bf n T d).1=DB T (CA (T j).s (T j).n (T j).C (F1 (T j).C (T j).n (T j).m (T j).R d.W d.n6 (T j).r)) n:=by
  unfold Bf at hc ⊢;rw [if_neg (by rw [h];simp),if_neg (by rw [hs];simp),if_neg (by omega)] at hc ⊢;rcases ht:An T d.tb n with _ | j
  · rw [ht] at hc;simp at hc
  ·
   rw [ht] at hc;dsimp only at hc ⊢
   rw [if_neg (by omega),if_neg (by omega),if_pos hk] at hc ⊢;unfold JO at hc ⊢;by_cases hw:CM (T j).C (T j).n d.W d.n6=0
   · rw [if_pos hw];exact⟨j,rfl,hw,rfl⟩
   · rw [if_neg hw] at hc;exact absurd hc hw
 obtain⟨j,ht,hw,hA⟩:=e;obtain⟨hj,-⟩:=A4 ht;rw [Gb (d:=CA (T j).s (T j).n (T j).C (F1 (T j).C (T j).n (T j).m (T j).R d.W d.n6 (T j).r)) hj rfl (Cw h)] at hA;obtain⟨g1,g2,g3⟩:=Pe (T:=T) (x:=CA (T j).s (T j).n (T j).C (F1 (T j).C (T j).n (T j).m (T j).R d.W d.n6 (T j).r)) hj;rw [←hA] at g1 g2 g3;have hn:∀ k,k<n->((Bf n T d).1.getD k t0).s=(T k).s:=λk hk=>by
  by_cases e:k=j
  · subst e;rw [g2];rfl
  · rw [g1 k hk e]
 generalize hT':(λi=>(Bf n T d).1.getD i t0)=T' at hokA ⊢;have e1:∀ k,T' k=(Bf n T d).1.getD k t0:=λk=>by rw [←hT']
 rw [g3] at hokA ⊢;have ht':An T' d.tb n=ς j:=by rw [Gu (T:=T) (λk hk=>by rw [e1,hn k hk]),ht]
 have hTj:T' j=CA (T j).s (T j).n (T j).C (F1 (T j).C (T j).n (T j).m (T j).R d.W d.n6 (T j).r):=by rw [e1,g2]
 have hap:(Bf n T' (Kw d.tb d.n6 d.W)).2=0:=by
  unfold Bf;rw [if_neg (by rw [hokA];simp),if_neg (by rw [So (Pd hs) hW];simp)];unfold Kw;dsimp only
  rw [if_neg (by omega),ht'];dsimp only
  rw [if_neg (by omega),if_neg (by omega),if_neg (by omega)];unfold Hv;rw [if_pos (Sn _ _),hTj];exact hw
 have hfit:∀ i,i<(T' j).r->Bp (T' j).C (T' j).n ((T' j).R i) d.W d.n6=false:=λi hi=>by
  rw [hTj] at hi ⊢;have hm:=Ae (y:=r0) (show i<(F1 (T j).C (T j).n (T j).m (T j).R d.W d.n6 (T j).r).length from hi)
  rw [FN] at hm;have:=(List.mem_filter.1 hm).2;rw [←FN] at this;show Bp (T j).C (T j).n ((F1 (T j).C (T j).n (T j).m (T j).R d.W d.n6 (T j).r).getD i r0).2 d.W d.n6=false
  simpa using this
 unfold A8;rw [if_neg (by simp [Kw]),if_neg (by simp [hap])];have ht2:An T' (Kw d.tb d.n6 d.W).tb n=ς j:=ht';rw [ht2];dsimp only
 obtain⟨z1,z2⟩:=Jh (m7:=(Kw d.tb d.n6 d.W).m7) (O:=(Kw d.tb d.n6 d.W).O) (n7:=(Kw d.tb d.n6 d.W).n7) hfit;rw [if_neg (by rw [show (Kw d.tb d.n6 d.W).W=d.W from rfl,show (Kw d.tb d.n6 d.W).n6=d.n6 from rfl,z2];simp)]
 show (Gf _ _ _ d.W d.n6 _ _ _ _,(0:Int))=_
 rw [z1]
theorem KQ{I I':Nat->Itm}:∀ {m:Nat},(∀ i,i<m->I' i=I i)->ex I' m=ex I m
 | 0,_=>rfl
 | m+1,h=>by rw [ex,ex,KQ (λi hi=>h i (by omega)),h m (by omega)]
theorem JW{C:Nat->Clm}{n:Nat}{R I I':Nat->Itm}:∀ {m:Nat},(∀ i,i<m->I' i=I i)->vl C n R I' m=vl C n R I m
 | 0,_=>rfl
 | m+1,h=>by rw [vl,vl,JW (λi hi=>h i (by omega)),h m (by omega)]
theorem KZ{C:Nat->Clm}{n:Nat}{I I':Nat->Itm}:∀ {m:Nat},(∀ i,i<m->I' i=I i)->ck C n I' m=ck C n I m
 | 0,_=>rfl
 | m+1,h=>by rw [ck,ck,KZ (λi hi=>h i (by omega)),h m (by omega)]
def Dh(W:Nat->Itm)(n6:Nat):Nat->Itm:=λi=>if i<n6 then W i else ⟨11,0,⟨#[]⟩⟩
theorem Fd{W:Nat->Itm}{n6:Nat}:∀ i,i<n6->Dh W n6 i=W i:=λ_ hi=>if_pos hi
theorem Fe(W:Nat->Itm)(n6:Nat):Dh W n6 n6=⟨11,0,⟨#[]⟩⟩:=if_neg (Nat.lt_irrefl _)
theorem Mf{W:Nat->Itm}{n6:Nat}(h:AI W n6=true)(h0:0<n6)(h1:n6<100):AI (Dh W n6) (n6+1)=true:=by
 obtain⟨-,-,hx⟩:=CY h (by omega);have e:ex (Dh W n6) (n6+1)=ς 1:=by
  rw [ex,KQ Fd,hx,Fe];rfl
 unfold AI AZ Bn;rw [e];simp
 omega
theorem Rp{C:Nat->Clm}{n:Nat}{W:Nat->Itm}{n6:Nat}(hx:ex W n6=ς 1)(h0:0<n6)(h:CM C n W n6=0):ck C n W n6=([1],0):=by
 unfold CM at h;rw [if_neg (by omega)] at h;have h2:(DA C n W n6).2=0/\(DA C n W n6).1=1:=by
  split at h
  · omega
  ·
   rename_i hn
   refine⟨h,?_⟩;by_cases e:(DA C n W n6).1=1
   · exact e
   · exact absurd ⟨h,e⟩ hn
 have h3:=FO h2.1;have hl:=Hm hx h3;have h4:=h2.2;unfold DA at h4;rw [if_neg (by simp [h3])] at h4;rcases hq:ck C n W n6 with ⟨L,c⟩
 rw [hq] at h3 hl h4;dsimp only at h3 hl h4
 match L,hl,h4 with
 | [],hl,_=>simp at hl
 | [x],_,h4=>rw [h3];simp at h4;rw [h4]
 | _ :: _ :: _,hl,_=>simp at hl;omega
theorem RP{C:Nat->Clm}{n:Nat}{W:Nat->Itm}{n6:Nat}(hx:ex W n6=ς 1)(h0:0<n6)(h:CM C n W n6=0):CM C n (Dh W n6) (n6+1)=0:=by
 have e:ck C n (Dh W n6) (n6+1)=([1],0):=by
  rw [ck,KZ Fd,Rp hx h0 h,Fe];simp [MS,B7,DZ,AW]
 unfold CM DA;rw [e];simp
theorem Pc{C:Nat->Clm}{n:Nat}{R W:Nat->Itm}{n6:Nat}(hx:ex W n6=ς 1)(h0:0<n6):Bp C n R (Dh W n6) (n6+1)=!Bp C n R W n6:=by
 have hl:=EE (C:=C) (n:=n) (R:=R) hx;have e:Bv C n R (Dh W n6) (n6+1)=Kf (decide ((Bv C n R W n6).m=0)):=by
  unfold Bv;rw [vl,JW Fd,Fe];match hq:vl C n R W n6,hl with
  | [],hl=>simp at hl
  | [x],_=>simp [DZ,AW,FC,C8]
  | _ :: _ :: _,hl=>simp at hl;omega
 unfold Bp;rw [e];by_cases z:(Bv C n R W n6).m=0
 · simp [z,Kf,Db];omega
 · simp [z,Kf,Db]
theorem LZ{C:Nat->Clm}{n:Nat}{R:Nat->Nat->Itm}{W W':Nat->Itm}{n6 n6':Nat}{m7:Nat->Nat}{O:Nat->Nat->Itm}{n7:Nat}(h:∀ i,Bp C n (R i) W' n6'=!Bp C n (R i) W n6):∀ r,(Gf C n R W n6 m7 O n7 r).length+(Gf C n R W' n6' m7 O n7 r).length=r
 | 0=>rfl
 | r+1=>by
  have ih:=LZ (m7:=m7) (O:=O) (n7:=n7) h r;rw [Gf,Gf,VJ,VJ,DE,DE,h r];cases Bp C n (R r) W n6 <;> simp <;> omega
theorem L6(C:Nat->Clm)(n:Nat)(R W:Nat->Itm):Bp C n R W 0=true:=rfl
theorem La{C:Nat->Clm}{n:Nat}{R:Nat->Nat->Itm}{W:Nat->Itm}{m7:Nat->Nat}{O:Nat->Nat->Itm}{n7:Nat}:∀ r,(Gf C n R W 0 m7 O n7 r).length=r
 | 0=>rfl
 | r+1=>by rw [Gf,VJ,DE,L6,La r];rfl
theorem Im{C:Nat->Clm}{n:Nat}{R:Nat->Nat->Itm}{W W':Nat->Itm}{n6:Nat}{m7:Nat->Nat}{O:Nat->Nat->Itm}{n7:Nat}:∀ r,Gy C n R W 0 m7 O n7 r=false->Gy C n R W' n6 m7 O n7 r=false
 | 0,_=>rfl
 | r+1,h=>by
  rw [Gy,L6,Bool.true_and,Bool.or_eq_false_iff] at h;rw [Gy,Im r h.1,h.2,Bool.and_false];rfl
theorem GM{d:St}(h:AK d=true)(hk:d.k=5){n6:Nat}{W:Nat->Itm}(hW:AI W n6=true):AK { d with n6:=n6,W:=W }=true:=by
 unfold AK BR GD at h ⊢;dsimp only
 rw [hk] at h ⊢;rw [if_neg (by omega),if_neg (by omega),if_neg (by omega),if_neg (by omega),if_pos rfl] at h ⊢;simp only [VO] at h ⊢
 exact⟨⟨h.1.1,by simp⟩,h.2.1,hW⟩
theorem Ko{n:Nat}{T:Nat->Td}{d:St}(h:A2 n T=true)(hk:d.k=5)(hs:AK d=true){j:Nat}(ht:An T d.tb n=ς j)(hso:GJ (T j).C (T j).n d.m7 d.O d.n7=0)(hw:CM (T j).C (T j).n d.W d.n6=0) :
 A8 n T d=if Gy (T j).C (T j).n (T j).R d.W d.n6 d.m7 d.O d.n7 (T j).r=true then ([],6) else (Gf (T j).C (T j).n (T j).R d.W d.n6 d.m7 d.O d.n7 (T j).r,0):=by
 have hap:(Bf n T d).2=0:=by
  unfold Bf;rw [if_neg (by rw [h];simp),if_neg (by rw [hs];simp),if_neg (by omega),ht];dsimp only
  rw [if_neg (by omega),if_neg (by omega),if_neg (by omega)];unfold Hv;rw [if_pos hso];exact hw
 unfold A8;rw [if_neg (by simp [hk]),if_neg (by simp [hap]),ht]
theorem MW{n:Nat}{T:Nat->Td}{d:St}{W0:Nat->Itm}(h:A2 n T=true)(hk:d.k=5)(hc:(Bf n T d).2=0)(h0:0<d.n6)(h1:d.n6<100)(hall:(A8 n T { d with n6:=0,W:=W0 }).2=0) :
 (A8 n T d).1.length+(A8 n T { d with n6:=d.n6+1,W:=Dh d.W d.n6 }).1.length=(A8 n T { d with n6:=0,W:=W0 }).1.length:=by
 obtain⟨j,ht,hj,hok,hs,hso,hw⟩:=Kn hk hc;have hW:=(IS hs hk).2.2.2;obtain⟨-,-,hx⟩:=CY hW (by omega);have e1:=Ko h hk hs ht hso hw;have e2:=Ko (d:={ d with n6:=d.n6+1,W:=Dh d.W d.n6 }) h hk (GM hs hk (Mf hW h0 h1)) ht hso (RP hx h0 hw);have e3:=Ko (d:={ d with n6:=0,W:=W0 }) h hk (GM hs hk rfl) ht hso rfl;rw [e3] at hall;dsimp only at e2 e3 hall
 have hg:Gy (T j).C (T j).n (T j).R W0 0 d.m7 d.O d.n7 (T j).r=false:=by
  rcases z:Gy (T j).C (T j).n (T j).R W0 0 d.m7 d.O d.n7 (T j).r
  · rfl
  · rw [z] at hall;simp at hall
 rw [e1,e2,e3,Im _ hg,Im _ hg,hg];simp only [Bool.false_eq_true,if_false]
 rw [LZ (λi=>Pc hx h0),La]
set_option maxHeartbeats 2000000
def bs(L:List UInt8):ByteArray:=⟨L.toArray⟩
def Tu(v:Int)(i:Nat):UInt8:=UInt8.ofNat ((v / 256 ^ i) % 256).toNat
def AX(n:Nat)(v:Int):List UInt8:=(List.range n).map λj=>Tu v (n - 1 - j)
def Be(l:List UInt8):List VN:=l.map λb=>ι .u8 (b.toNat:Int)
theorem AH(n:Nat)(v:Int):(AX n v).length=n:=by simp [AX]
theorem Nv(n:Nat)(v:Int)(k:Nat)(h:k<n):(AX n v)[k]?=ς (Tu v (n - 1 - k)):=by simp [AX,h]
theorem MF(v:Int)(i:Nat):((Tu v i).toNat:Int)=(v / 256 ^ i) % 256:=by
 unfold Tu;have h0:=Int.emod_nonneg (v / 256 ^ i) (show (256:Int)≠0 by omega);have h1:=Int.emod_lt_of_pos (v / 256 ^ i) (show (0:Int)<256 by omega);rw [UInt8.toNat_ofNat'];omega
theorem JT(n:Nat)(v:Int)(k:Nat)(h:k<n):Be ((AX n v).take k) ++ [ι .u8 ((v / 256 ^ (n - 1 - k)) % 256)]=Be ((AX n v).take (k+1)):=by
 rw [List.take_add_one,Nv n v k h];simp [Be,MF]
theorem Tryz.infoB:(Tryz.prog.info? 5).map (λi=>(i.zero,i.size,i.bytes))=ς (ς (ι .u8 0),1,1):=by kernel_rfl
theorem KX(w:ο)(B g cap:Nat)(l:List UInt8)(h:w.ownsRow B 5 1 (σ (ς ⟨g,0,ν⟩) l.length cap) l.length (Be l)) :
 (convert 22 9 (σ (ς ⟨g,0,ν⟩) l.length cap)).run μ w=.ok (τ ⟨l.toArray⟩) w:=by
 refine run_convert_bytes_back w 22 9 5 ⟨g,0,ν⟩ cap l Tryz.underlying22 Tryz.underlying5 Tryz.underlying9 ?_;intro j hj;have hadd:(⟨g,0,ν⟩:Addr).add j=⟨g,j,ν⟩:=by unfold Addr.add;split <;> simp_all
 rw [hadd,h.cellAt j (by omega)];simp [Be,hj]
theorem Oh(v:Int)(j:Nat):v / 256 ^ (j+1)=v / 256 ^ j / 256:=by
 rw [Int.pow_succ,Int.ediv_ediv_of_nonneg (Int.pow_nonneg (by omega))]
theorem Qx(n:Nat)(v:Int)(w:ο)(hn:n<=8) :
 VK μ 42 #[ι κ n,ι κ v] w λe w'=>e=ρ (τ (bs (AX n v)))/\υ w.heap.size w w':=by
 obtain⟨i0,hi,hz0,hz1,hz2⟩:=info_parts Tryz.infoB;have HI:Hid (Tryz.prog.info? 5=ς i0):=hi;clear hi;go_enter Tryz.func42,Tryz.ntmps42
 go_wp2;go_loopw [5,6] (λo i wr=>∃ k g cap:Nat,k<=n/\i=ι κ ((n:Int) - 1 - k)/\o=σ (ς ⟨g,0,ν⟩) k cap/\w.heap.size<=g/\wr.ownsRow w.heap.size 5 1 (σ (ς ⟨g,0,ν⟩) k cap) k (Be ((AX n v).take k))/\υ w.heap.size w wr) (λ_ i _=>(VQ i+1).toNat)
 case atStart=>exact⟨0,w.heap.size,0,by omega,by simp,rfl,VD _,World.ownsRow_lit w #[] 0 (VD _) (by simp [maxLen]) rfl,(VT _ _).alloc (VD _) _⟩
 case round=>
  obtain⟨k,g,cap,hk,rfl,rfl,hg,hown,hb⟩:=hrel;by_cases hlt:k<n
  ·
   go_wp2;go_loop [7,8] (λx q=>∃ j:Nat,j+k+1<=n/\q=ι κ j/\x=ι κ (v / 256 ^ j)) (λ_ q=>n - (VQ q).toNat)
   case atStart=>exact⟨0,by omega,rfl,by simp⟩
   case round=>
    obtain⟨j,hj,rfl,rfl⟩:=hrel;have HP:Hid (v / 256 ^ (j+1)=v / 256 ^ j / 256):=Oh v j;by_cases hjl:j+k+1<n
    ·
     obtain⟨x,hx⟩:∃ x,v / 256 ^ j=x:=⟨_,rfl⟩;rw [hx] at HP ⊢;clear hx;go_wp2;go_round
     case rel=>exact⟨j+1,by omega,by go_num,by rw [HP.out]⟩
     case measure=>simp [VQ];omega
    ·
     have ej:j=n - 1 - k:=by omega
     have HS:=JT n v k hlt;rw [←ej] at HS;have HSS:Hid (Be ((AX n v).take k) ++ [ι .u8 ((v / 256 ^ j) % 256)]=Be ((AX n v).take (k+1))):=HS;clear HS ej HP;obtain⟨x,hx⟩:∃ x,v / 256 ^ j=x:=⟨_,rfl⟩;rw [hx] at HSS ⊢;clear hx;have hsz:=hb.size;go_wp2_with (at_builtin;refine VR _ rfl _ _ _ rfl w.heap.size 5 i0 (ι .u8 0) 1 1 Tryz.underlying22 HI.out hz0 hz1 hz2 rfl (by omega) _ k _ rfl (hown.alloc _) ⟨wr.heap.size,0,ν⟩ 1 1 [ι .u8 (x % 256)] rfl rfl (VI (η wr _)) (Bt _ rfl) (by omega) (by unfold maxLen;omega) (by omega) (by simp;omega) _ rfl ?_;intro g1 cap1 w1 hown1 hgrow hat hlt1)
     go_roundw
     case rel=>exact⟨k+1,g1,cap1,by omega,by go_num,rfl,A3 hown1,by rw [←HSS.out];simpa using hown1,(hb.alloc (by omega) _).grown hgrow (by simp;omega) (λq hq=>by have e:g=q:=VF hq;omega)⟩
     case measure=>simp [VQ];omega
  ·
   obtain rfl:k=n:=by omega
   have hc:=KX wr w.heap.size g cap (AX k v) (by rw [AH];simpa [List.take_of_length_le,AH] using hown);rw [AH] at hc;go_wp2;go_ret
   exact⟨rfl,hb⟩
theorem Dq(v:Int)(w:ο):VK μ 42 #[ι κ 1,ι κ v] w λe w'=>e=ρ (τ (bs (AX 1 v)))/\υ w.heap.size w w':=Qx 1 v w (by omega)
theorem QR(v:Int)(w:ο):VK μ 42 #[ι κ 2,ι κ v] w λe w'=>e=ρ (τ (bs (AX 2 v)))/\υ w.heap.size w w':=Qx 2 v w (by omega)
theorem QQ(v:Int)(w:ο):VK μ 42 #[ι κ 8,ι κ v] w λe w'=>e=ρ (τ (bs (AX 8 v)))/\υ w.heap.size w w':=Qx 8 v w (by omega)
