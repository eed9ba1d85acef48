import Derived.Test.YtkiloaiffopllaaGreatJ39
set_option maxHeartbeats 8000000
namespace Go.Proofs.YtkiloaiffopllaaGreat
set_option maxRecDepth 100000
open Go.RowKit
theorem Gf {s:BA} (h:nmB s=true):1≤s.size∧s.size≤20:=by
 unfold nmB at h;rw [Bool.and_eq_true] at h;exact of_decide_eq_true h.1
theorem bR {s:BA} (h:nmB s=true):¬ s.toList=[]:=fun e=>by
 have h1:=(Gf h).1;rw [ByteArray.toList_eq] at e;have h2:s.data.toList.length=0:=by rw [e];rfl
 have h3:s.data.toList.length=s.size:=Array.length_toList;omega
theorem bP {s:BA} (h:hdB s=true):nmB s=true:=by
 unfold hdB at h;rw [Bool.and_eq_true] at h;exact h.1
theorem Pw {x:Wnt} (h:wnB x=true):nmB x.copy=true∧x.hold.size≤20:=by
 unfold wnB at h;simp only [Bool.and_eq_true] at h;obtain ⟨⟨⟨⟨⟨⟨h1,_⟩,h3⟩,_⟩,_⟩,_⟩,_⟩:=h;refine ⟨h1,?_⟩;rw [Bool.or_eq_true] at h3;rcases h3 with e | e
 ·have e2:x.hold.toList=[]:=by simpa using e
  rw [ByteArray.toList_eq] at e2;have h2:x.hold.data.toList.length=0:=by rw [e2];rfl
  have h4:x.hold.data.toList.length=x.hold.size:=Array.length_toList;omega
 ·exact (Gf (bP e)).2
theorem Kf {x:Mte} {n:Int} (h:mvB x=true) (hn:inR n 1 4=true) (hc:¬ 1000000<x.clock+n):TOk (Zu x n):=by
 unfold mvB at h;simp only [Bool.and_eq_true] at h;obtain ⟨⟨⟨hnm,hcl⟩,_⟩,⟨hw,_⟩,hr,⟨⟨ha,hg⟩,_⟩,_⟩:=h;unfold wsB at hw;unfold rsB at hr;unfold Ea at ha hg;simp only [Bool.and_eq_true,List.all_eq_true,decide_eq_true_eq] at hw hr ha hg;obtain ⟨w1,w2,w3,_⟩:=hw;obtain ⟨r1,r2,r3⟩:=hr;obtain ⟨a1,a2,a3⟩:=ha;obtain ⟨g1,g2,g3⟩:=hg;unfold inR at hcl hn;simp only [Bool.and_eq_true,decide_eq_true_eq] at hcl hn;have rz:∀ r∈x.runs,r.want.copy.size≤20∧r.want.hold.size≤20:=fun r hm=>by
  have:=r3 r hm;unfold roB at this;simp only [Bool.and_eq_true] at this;have h2:=Pw this.1;exact ⟨(Gf h2.1).2,h2.2⟩
 have ak:∀ (c:Int) (a:Aks),akB a c=true→nmB a.hold=true∧nmB a.copy=true∧0≤a.at_∧a.at_≤c:=fun c a h=>by
  unfold akB inR at h;simp only [Bool.and_eq_true,decide_eq_true_eq] at h;exact ⟨bP h.1.1.1,h.1.1.2,h.1.2.1,h.1.2.2⟩
 refine ⟨(Gf hnm).2,⟨by show 0≤x.clock+n;omega,by show x.clock+n≤1000000;omega⟩,fun a hm=>⟨(Gf (Pw (w3 a hm)).1).2,(Pw (w3 a hm)).2⟩,fun a hm=>?_,fun a hm=>?_,fun a hm=>?_,w1,by show (x.runs.map _).length≤20;rw [List.length_map];exact r1,a1,g1,w2,Vl (fun z=>by show (wdR z _).want.copy=_;rw [Gb]) (Qe r2),Qe a2,Qe g2,fun a hm=>?_,fun a hm=>bR (ak _ a (a3 a hm)).1,fun a hm=>bR (Pw (w3 a hm)).1⟩
 ·obtain ⟨z,hz,rfl⟩:=List.mem_map.1 hm
  rw [Gb];exact rz z hz
 ·exact ⟨(Gf (ak _ a (a3 a hm)).1).2,(Gf (ak _ a (a3 a hm)).2.1).2⟩
 ·exact ⟨(Gf (ak _ a (g3 a hm)).1).2,(Gf (ak _ a (g3 a hm)).2.1).2⟩
 ·have:=(ak _ a (a3 a hm)).2.2
  omega
theorem Mc:∀ (rs:List Rn) (s:Mte×List Pcl) (m:Nat),Iv rs 20→s.1.name.size≤20→PSm m s.2→PSm (m+rs.length) (rs.foldl askF s).2
 | [],_,_,_,_,h=>h
 | r::rs,s,m,hz,hn,h=>by
  have h2:=hz r List.mem_cons_self;have h3:PSm (m+1) (askF s r).2:=by
   unfold askF
   split
   ·exact h.snoc rfl hn h2.2 h2.1
   ·exact ⟨Nat.le_succ_of_le h.1,h.2⟩
  have:=Mc rs (askF s r) (m+1) (fun z hm=>hz z (List.mem_cons_of_mem _ hm)) (by rw [(Oj s r).2.2.1];exact hn) h3;rw [show m+(r::rs).length=m+1+rs.length by simp;omega];exact this
theorem Tf {x:Mte} (h:TOk x):PSm 100 (En x).2:=by
 have hk:TOk (Cr x):=by
  unfold Cr
  split
  ·exact h.liveM.startM
  ·exact h
 have h1:=Mc (Cr x).runs (Cr x,[]) 0 hk.z6 hk.nm ⟨Nat.le_refl _,fun q hq=>by cases hq⟩;have ha:TOk (asksM (Cr x)).1:=hk.asksM;have hl:=hk.l6;have hl8:=ha.l8;have e1:(asksM (Cr x)).2=((Cr x).runs.foldl askF (Cr x,[])).2:=rfl;rw [← e1] at h1;unfold En Sl;refine ⟨?_,fun q hq=>?_⟩
 ·have:=h1.1
  simp only [List.length_append,List.length_map,List.length_singleton];omega
 ·rcases List.mem_append.1 hq with hq | hq
  ·rcases List.mem_append.1 hq with hq | hq
   ·exact h1.2 q hq
   ·obtain ⟨g,hg,rfl⟩:=List.mem_map.1 hq
    exact ⟨rfl,ha.nm,(ha.z8 g hg).1,(ha.z8 g hg).2⟩
  ·rw [List.mem_singleton.1 hq]
   exact ⟨rfl,ha.nm,zL,zL⟩
theorem aX {x:Mte} (h:TOk x):TOk (En x).1:=by
 have hk:TOk (Cr x):=by
  unfold Cr
  split
  ·exact h.liveM.startM
  ·exact h
 exact hk.asksM
theorem Mr (x:Mte) (n:Int):PSm 100 (Cm x n).2:=by
 have h0:PSm 100 ([]:List Pcl):=⟨zL,fun q hq=>by cases hq⟩;unfold Cm
 split
 ·split
  ·split
   ·exact h0
   ·split
    ·exact Tf (Kf ‹_› ‹_› ‹_›)
    ·exact h0
  ·exact h0
 ·exact h0
theorem cQ (x:Mte) (n:Int) (h:Cy x≤1048576):Cy (Cm x n).1≤1048576:=by
 unfold Cm
 split
 ·split
  ·split
   ·exact lT (aS x true) h
   ·split
    ·exact lT (aX (Kf ‹_› ‹_› ‹_›)).w (by omega)
    ·exact lT (Kf ‹_› ‹_› ‹_›).w (by omega)
  ·exact h
 ·show Cy Gp≤_
  decide
theorem Dp {α:Type} {C:Fv α} {n lo:Nat} {w w':World} {a:OA} {xs:List α} (hF:∀ (w w':World) (f g:Nat→Option Value) (x:α),(∀ i,i<n→g i=f i)→C lo w f x→C lo w' g x) (h:SliceC C n lo w a xs) (hs:w.heap.size≤w'.heap.size) (k:∀ b o s,a=some ⟨b,o,s⟩→xs≠[]→lo≤b→b<w.heap.size→w'.heap[b]?=w.heap[b]?):SliceC C n lo w' a xs:=by
 refine ⟨h.1,?_⟩;by_cases hx:xs=[]
 ·exact .inl hx
 rcases h.2 with h0 | ⟨b,o,e,h1,h2,h3⟩
 ·exact .inl h0
 ·have kb:=k b o none e hx h1.1 h2
  refine .inr ⟨b,o,e,⟨h1.1,fun hp p=>?_⟩,lL h2 hs,fun i x hi=>hF w w' _ _ x (fun t _=>Ck kb) (h3 i x hi)⟩;have:=h1.2 hp p;unfold World.frozen? at this ⊢;rw [kb];exact this
theorem dO {lo b g:Nat} {w:World} {xs:List Wnt} {cs:Array Value} {t:TypeId} {u:Bool} (h:SliceC WntC 7 lo w (some ⟨b,0,none⟩) xs) (hb:Blk g cs t w) (h1:cs[1]?=some (.bool u)) (hx:xs≠[]):b≠g:=fun e=>by
 subst e;obtain ⟨x,hx0⟩:∃ x,xs[0]?=some x:=⟨xs[0]'(List.length_pos_iff.2 hx),gE _⟩;obtain ⟨b1,o1,e1,_,_,hc⟩:=h.at hx0;cases e1
 have h2:=hc.2.1;have h3:=hb.cell h1;simp only [Nat.zero_mul,Nat.zero_add] at h2;rw [h3] at h2;cases h2
theorem dQ {lo b g:Nat} {w:World} {xs:List Rn} {cs:Array Value} {t:TypeId} {u:Bool} (h:SliceC RnC 11 lo w (some ⟨b,0,none⟩) xs) (hb:Blk g cs t w) (h1:cs[1]?=some (.bool u)) (hx:xs≠[]):b≠g:=fun e=>by
 subst e;obtain ⟨x,hx0⟩:∃ x,xs[0]?=some x:=⟨xs[0]'(List.length_pos_iff.2 hx),gE _⟩;obtain ⟨b1,o1,e1,_,_,hc⟩:=h.at hx0;cases e1
 have h2:=hc.2.1;have h3:=hb.cell h1;simp only [Nat.zero_mul,Nat.zero_add] at h2;rw [h3] at h2;cases h2
theorem dJ {lo b g:Nat} {w:World} {xs:List Aks} {cs:Array Value} {t:TypeId} {u:Bool} (h:SliceC AksC 4 lo w (some ⟨b,0,none⟩) xs) (hb:Blk g cs t w) (h1:cs[1]?=some (.bool u)) (hx:xs≠[]):b≠g:=fun e=>by
 subst e;obtain ⟨x,hx0⟩:∃ x,xs[0]?=some x:=⟨xs[0]'(List.length_pos_iff.2 hx),gE _⟩;obtain ⟨b1,o1,e1,_,_,hc⟩:=h.at hx0;cases e1
 have h2:=hc.2.1;have h3:=hb.cell h1;simp only [Nat.zero_mul,Nat.zero_add] at h2;rw [h3] at h2;cases h2
def ML (y:Mte) (b5 b6 b7 b8:Nat) (w:World):Prop:=MSv y 0 (some ⟨b5,0,none⟩) (some ⟨b6,0,none⟩) (some ⟨b7,0,none⟩) (some ⟨b8,0,none⟩) w
theorem ML.box {y:Mte} {b5 b6 b7 b8 g:Nat} {w w':World} {cs:Array Value} {t:TypeId} {u:Bool} (h:ML y b5 b6 b7 b8 w) (hb:Blk g cs t w) (h1:cs[1]?=some (.bool u)) (hs:w.heap.size≤w'.heap.size) (k:∀ b,b≠g→w'.heap[b]?=w.heap[b]?):ML y b5 b6 b7 b8 w' :=
 ⟨Dp Zs h.s5 hs (fun b o s e hx _ _=>by cases e;exact k _ (dO h.s5 hb h1 hx)),Dp Yj h.s6 hs (fun b o s e hx _ _=>by cases e;exact k _ (dQ h.s6 hb h1 hx)),Dp Mu h.s7 hs (fun b o s e hx _ _=>by cases e;exact k _ (dJ h.s7 hb h1 hx)),Dp Mu h.s8 hs (fun b o s e hx _ _=>by cases e;exact k _ (dJ h.s8 hb h1 hx)),h.p5,h.p6,h.p7,h.p8⟩
theorem ML.set {y:Mte} {b5 b6 b7 b8 g:Nat} {w:World} {cs:Array Value} {t:TypeId} {u:Bool} (h:ML y b5 b6 b7 b8 w) (hb:Blk g cs t w) (h1:cs[1]?=some (.bool u)) (o:Nat) (v:Value):ML y b5 b6 b7 b8 (w.setCell ⟨g,o,none⟩ v) :=
 h.box hb h1 (Nat.le_of_eq (Al [v] o w).symm) (fun b hn=>Below.heap_setCell w ⟨g,o,none⟩ v b hn)
theorem ML.sets {y:Mte} {b5 b6 b7 b8 g:Nat} {w:World} {cs:Array Value} {t:TypeId} {u:Bool} (h:ML y b5 b6 b7 b8 w) (hb:Blk g cs t w) (h1:cs[1]?=some (.bool u)) (vs:List Value):ML y b5 b6 b7 b8 (w.setCells g 0 vs) :=
 h.box hb h1 (Nat.le_of_eq (Al vs 0 w).symm) (fun b hn=>Bv g b hn vs 0 w)
theorem ML.below {y:Mte} {b5 b6 b7 b8:Nat} {w w':World} (h:ML y b5 b6 b7 b8 w) (hb:Below w.heap.size w w'):ML y b5 b6 b7 b8 w':=MSv.below h hb nL
theorem ML.grown {y:Mte} {b5 b6 b7 b8 g:Nat} {w w':World} (h:ML y b5 b6 b7 b8 w) (hg:w.grownBy w' (some g)) (hn:g≠b5∧g≠b6∧g≠b7∧g≠b8):ML y b5 b6 b7 b8 w' :=
 ⟨Dp Zs h.s5 hg.size (fun b o s e _ _ hl=>by cases e;exact hg.block _ hl (fun e=>hn.1 (Option.some.inj e).symm)),Dp Yj h.s6 hg.size (fun b o s e _ _ hl=>by cases e;exact hg.block _ hl (fun e=>hn.2.1 (Option.some.inj e).symm)),Dp Mu h.s7 hg.size (fun b o s e _ _ hl=>by cases e;exact hg.block _ hl (fun e=>hn.2.2.1 (Option.some.inj e).symm)),Dp Mu h.s8 hg.size (fun b o s e _ _ hl=>by cases e;exact hg.block _ hl (fun e=>hn.2.2.2 (Option.some.inj e).symm)),h.p5,h.p6,h.p7,h.p8⟩
theorem Qg (x:Mte) (a5:OA) (c5:Nat) (a6:OA) (c6:Nat) (a7:OA) (c7:Nat) (a8:OA) (c8:Nat) (mach:Bool) (lo:Nat) (w:World) (hin:MSv x lo a5 a6 a7 a8 w) (hv:Ul a5 x.wants.length c5 a6 x.runs.length c6 a7 x.asks.length c7 a8 x.gives.length c8) (hm:MSz x) :
  Calls Tryz.prog 74 #[.agg (mmA x a5 c5 a6 c6 a7 c7 a8 c8),.bool mach] w fun e w'=>∃ (y:Mte) (b5:OA) (q5:Nat) (b6:OA) (q6:Nat) (b7:OA) (q7:Nat) (b8:OA) (q8:Nat),y=Gt x mach∧e=.returned (.agg (mmA y b5 q5 b6 q6 b7 q7 b8 q8))∧G4 y w.heap.size w'.heap.size b5 b6 b7 b8 w'∧Below w.heap.size w w':=by
 have HI:=iH hin;have HV:=iH hv;have HM:=iH hm;clear hin hm hv;have HKa:=Blk.alloc w (mmA x a5 c5 a6 c6 a7 c7 a8 c8) 32;have HZ2:=al2 w (mmA x a5 c5 a6 c6 a7 c7 a8 c8) 32 MmA 32;have HK2:=iH (HKa.below ((Below.refl _ _).alloc nL (Obj.cells MmA 32)) HKa.lt);have hB2:=bl2 w (mmA x a5 c5 a6 c6 a7 c7 a8 c8) 32 MmA 32;clear HKa;go_enter Tryz.func74,Tryz.ntmps74;go_upto_region 1 with fail;generalize (w.alloc (Obj.cells (mmA x a5 c5 a6 c6 a7 c7 a8 c8) 32)).alloc (Obj.cells MmA 32)=w2 at *;go_wp2_with (refine qLk Cu HK2 ?_);refine (Ir x a5 c5 a6 c6 a7 c7 a8 c8 lo _ (Nq HM (HI.out.below hB2 nL))).mono ?_;rintro e w3 ⟨rfl,hb3⟩;have HK3:=qBk HK2 hb3;have HZ3:=qBk HZ2 hb3;have hB3:=qTr hB2 hb3;clear hb3 HK2 HZ2 hB2;have HTS:=iH HZ3.out.there
 cases hmv:mvB x with
 | false =>
  have hy:Gp=Gt x mach:=by unfold Gt;rw [hmv];rfl
  obtain ⟨wf,HE⟩:∃ wf,Hid (wf=w3.setCells (w.heap.size+1) 0 MmL):=⟨_,rfl⟩;have HRf:Hid (wf.rangeAt (w.heap.size+1) 0 MmL):=by
   show World.rangeAt _ _ _ _
   rw [HE.out];exact World.rangeAt_setCells_same _ _ _ _ HTS
  have hBf:Below w.heap.size w wf:=by
   rw [HE.out];exact Aa (by omega) _ _ _ hB3
  have HYY:=iH hy;clear hB3 hmv hy;go_wp2_with (refine Ab rfl 32 _ _ rfl (w.heap.size+1) 0 MmA (by first | rfl | (simp [go_sem];done)) rfl HTS Am (by simp [Value.oneCell']) wf HE ?_);exact bodyPost_ret (Ai rfl _ _ (w.heap.size+1) MmL _ rfl HRf Tryz.underlying32 rfl Am) rfl ⟨Gp,none,0,none,0,none,0,none,0,HYY,rfl,⟨w.heap.size,w.heap.size,w.heap.size,Nat.le_refl _,Nat.le_refl _,Nat.le_refl _,hBf.size,Nat.le_refl _,Dc,Dc,Dc,Dc,SliceC.nil,SliceC.nil,SliceC.nil,SliceC.nil⟩,hBf⟩
 | true =>
  have HMV:=iH hmv;clear hmv HTS;have k6:w3.cell? ⟨w.heap.size,6,none⟩=some (.slice a6 x.runs.length c6):=HK3.out.cell rfl;have HLA:=iH (Ma (P:=fun r=>alB r.state) HM.out.l6 HM.out.z6);go_wp2_with fail;clear k6;refine (Ro 109 (fun r=>alB r.state) x.runs a6 c6 lo _ (HI.out.s6.below RnC.holds hB3 nL) HM.out.l6 (fun r v=>Im r v) (enters_of Tryz.func109 (by kernel_rfl) rfl)).mono ?_;rintro e w4 ⟨b1,q1,rfl,ho4,hb4⟩;have HK4:=qBk HK3 hb4;have HZ4:=qBk HZ3 hb4;have hB4:=qTr hB3 hb4;have HO4:=iH ho4;have hs4:=hb4.size;clear hb4 ho4 HK3 HZ3 hB3
  cases mach with
  | false =>
   have HYY:Hid (⟨x.name,false,x.clock,false,0,[],x.runs.filter (fun r=>alB r.state),[],[]⟩=Gt x false):=by show _=_;unfold Gt;rw [HMV.out];rfl
   generalize x.runs.filter (fun r=>alB r.state)=L at *;have k0:w4.cell? ⟨w.heap.size,0,none⟩=some (.string x.name):=HK4.out.cell rfl;have k2:w4.cell? ⟨w.heap.size,2,none⟩=some (.int .i64 x.clock):=HK4.out.cell rfl;have HSL:=iH (Dl HO4 HLA.out.1 HLA.out.2);have HSP:=iH (Jp HO4);have hgl:w.heap.size+1<w4.heap.size:=HZ4.out.lt;go_wp2_with fail;clear k0 k2;refine (Fp ⟨x.name,false,x.clock,false,0,[],L,[],[]⟩ none 0 b1 q1 none 0 none 0 _ _ ⟨SliceC.nil,HSL,SliceC.nil,SliceC.nil,fun _ _ _ e=>(by cases e),HSP,fun _ _ _ e=>(by cases e),fun _ _ _ e=>(by cases e)⟩ ⟨HM.out.nm,fun _ h=>(by cases h),HLA.out.2,fun _ h=>(by cases h),fun _ h=>(by cases h),zL,HLA.out.1,zL,zL⟩).mono ?_;rintro e wn ⟨b5,q5,b6,q6,b7,q7,b8,q8,rfl,hg,hbn⟩;have HZn:=qBk HZ4 hbn;have hBn:=qTr hB4 hbn;have HG:=iH hg;have HTZ:=iH HZn.out.there;obtain ⟨wf,HE⟩:∃ wf,Hid (wf=wn.setCells (w.heap.size+1) 0 [.string x.name,.bool false,.int .i64 x.clock,.bool false,.int .i64 0,.slice b5 0 q5,.slice b6 (L).length q6,.slice b7 0 q7,.slice b8 0 q8]):=⟨_,rfl⟩;have HRf:Hid (wf.rangeAt (w.heap.size+1) 0 [.string x.name,.bool false,.int .i64 x.clock,.bool false,.int .i64 0,.slice b5 0 q5,.slice b6 (L).length q6,.slice b7 0 q7,.slice b8 0 q8]):=by
    show World.rangeAt _ _ _ _
    rw [HE.out];exact World.rangeAt_setCells_same _ _ _ _ HTZ
   have hBf:Below w.heap.size w wf:=by
    rw [HE.out];exact Aa (by omega) _ _ _ hBn
   replace HG:Hid (G4 ⟨x.name,false,x.clock,false,0,[],L,[],[]⟩ w.heap.size wf.heap.size b5 b6 b7 b8 wf):=by
    have hk:Keeps w4.heap.size wn wf:=by rw [HE.out];exact Keeps.setCells hgl _ _ _
    exact (HG.out.keep hk).widen (by omega) hk.1 nL
   clear hbn hg hBn HZn;go_wp2_with (refine Ab rfl 32 _ _ rfl (w.heap.size+1) 0 #[.string x.name,.bool false,.int .i64 x.clock,.bool false,.int .i64 0,.slice b5 0 q5,.slice b6 (L).length q6,.slice b7 0 q7,.slice b8 0 q8] (by first | rfl | (simp [go_sem];done)) rfl HTZ Am (by simp [Value.oneCell']) wf HE ?_);exact bodyPost_ret (Ai rfl _ _ (w.heap.size+1) [.string x.name,.bool false,.int .i64 x.clock,.bool false,.int .i64 0,.slice b5 0 q5,.slice b6 (L).length q6,.slice b7 0 q7,.slice b8 0 q8] _ rfl HRf Tryz.underlying32 rfl Am) rfl ⟨⟨x.name,false,x.clock,false,0,[],L,[],[]⟩,b5,q5,b6,q6,b7,q7,b8,q8,HYY,rfl,HG,hBf⟩
  | true =>
   have HYY:Hid (⟨x.name,false,x.clock,false,0,[],((x.runs.filter (fun r=>alB r.state)).filter (fun r=>!(r.want.hold.toList == []))).map Dj,[],[]⟩=Gt x true):=by show _=_;unfold Gt;rw [HMV.out];rfl
   have HLB:=iH (Ma (P:=fun r=>!(r.want.hold.toList == [])) HLA.out.1 HLA.out.2);go_wp2_with fail;refine (Ro 110 (fun r=>!(r.want.hold.toList == [])) (x.runs.filter (fun r=>alB r.state)) b1 q1 w3.heap.size _ (Dl HO4 HLA.out.1 HLA.out.2) HLA.out.1 (fun r v=>Ht r v) (enters_of Tryz.func110 (by kernel_rfl) rfl)).mono ?_;rintro e w5 ⟨b2,q2,rfl,ho5,hb5⟩;have HK5:=qBk HK4 hb5;have HZ5:=qBk HZ4 hb5;have hB5:=qTr hB4 hb5;have HO5:=iH ho5;clear hb5 ho5 HK4 HZ4 hB4 HO4;have HLC:=iH (St HLB.out.1 HLB.out.2);generalize (x.runs.filter (fun r=>alB r.state)).filter (fun r=>!(r.want.hold.toList == []))=L2 at *;go_wp2_with fail;refine (Zl L2 b2 q2 w4.heap.size _ (Dl HO5 HLB.out.1 HLB.out.2) HLB.out.1 (Jp HO5)).mono ?_;rintro e w6 ⟨b3,q3,rfl,ho6,hb6⟩;generalize L2.map Dj=L at *;have HK6:=qBk HK5 hb6;have HZ6:=qBk HZ5 hb6;have hB6:=qTr hB5 hb6;have HO6:=iH ho6;clear hb6 ho6 HK5 HZ5 hB5 HO5;have k0:w6.cell? ⟨w.heap.size,0,none⟩=some (.string x.name):=HK6.out.cell rfl;have k2:w6.cell? ⟨w.heap.size,2,none⟩=some (.int .i64 x.clock):=HK6.out.cell rfl;have HSL:=iH (Dl HO6 HLC.out.1 HLC.out.2);have HSP:=iH (Jp HO6);have hgl:w.heap.size+1<w6.heap.size:=HZ6.out.lt;go_wp2_with fail;clear k0 k2;refine (Fp ⟨x.name,false,x.clock,false,0,[],L,[],[]⟩ none 0 b3 q3 none 0 none 0 _ _ ⟨SliceC.nil,HSL,SliceC.nil,SliceC.nil,fun _ _ _ e=>(by cases e),HSP,fun _ _ _ e=>(by cases e),fun _ _ _ e=>(by cases e)⟩ ⟨HM.out.nm,fun _ h=>(by cases h),HLC.out.2,fun _ h=>(by cases h),fun _ h=>(by cases h),zL,HLC.out.1,zL,zL⟩).mono ?_;rintro e wn ⟨b5,q5,b6,q6,b7,q7,b8,q8,rfl,hg,hbn⟩;have HZn:=qBk HZ6 hbn;have hBn:=qTr hB6 hbn;have HG:=iH hg;have HTZ:=iH HZn.out.there;obtain ⟨wf,HE⟩:∃ wf,Hid (wf=wn.setCells (w.heap.size+1) 0 [.string x.name,.bool false,.int .i64 x.clock,.bool false,.int .i64 0,.slice b5 0 q5,.slice b6 (L).length q6,.slice b7 0 q7,.slice b8 0 q8]):=⟨_,rfl⟩;have HRf:Hid (wf.rangeAt (w.heap.size+1) 0 [.string x.name,.bool false,.int .i64 x.clock,.bool false,.int .i64 0,.slice b5 0 q5,.slice b6 (L).length q6,.slice b7 0 q7,.slice b8 0 q8]):=by
    show World.rangeAt _ _ _ _
    rw [HE.out];exact World.rangeAt_setCells_same _ _ _ _ HTZ
   have hBf:Below w.heap.size w wf:=by
    rw [HE.out];exact Aa (by omega) _ _ _ hBn
   replace HG:Hid (G4 ⟨x.name,false,x.clock,false,0,[],L,[],[]⟩ w.heap.size wf.heap.size b5 b6 b7 b8 wf):=by
    have hk:Keeps w6.heap.size wn wf:=by rw [HE.out];exact Keeps.setCells hgl _ _ _
    exact (HG.out.keep hk).widen (by omega) hk.1 nL
   clear hbn hg hBn HZn;go_wp2_with (refine Ab rfl 32 _ _ rfl (w.heap.size+1) 0 #[.string x.name,.bool false,.int .i64 x.clock,.bool false,.int .i64 0,.slice b5 0 q5,.slice b6 (L).length q6,.slice b7 0 q7,.slice b8 0 q8] (by first | rfl | (simp [go_sem];done)) rfl HTZ Am (by simp [Value.oneCell']) wf HE ?_);exact bodyPost_ret (Ai rfl _ _ (w.heap.size+1) [.string x.name,.bool false,.int .i64 x.clock,.bool false,.int .i64 0,.slice b5 0 q5,.slice b6 (L).length q6,.slice b7 0 q7,.slice b8 0 q8] _ rfl HRf Tryz.underlying32 rfl Am) rfl ⟨⟨x.name,false,x.clock,false,0,[],L,[],[]⟩,b5,q5,b6,q6,b7,q7,b8,q8,HYY,rfl,HG,hBf⟩
theorem Pu (x:Mte) (a5:OA) (c5:Nat) (a6:OA) (c6:Nat) (a7:OA) (c7:Nat) (a8:OA) (c8:Nat) (mach:Bool) (lo:Nat) (w:World) (hin:MSv x lo a5 a6 a7 a8 w) (hv:Ul a5 x.wants.length c5 a6 x.runs.length c6 a7 x.asks.length c7 a8 x.gives.length c8) (hm:MSz x) :
  Calls Tryz.prog 20 #[.agg (mmA x a5 c5 a6 c6 a7 c7 a8 c8),.bool mach] w fun e w'=>∃ (y:Mte) (b5:OA) (q5:Nat) (b6:OA) (q6:Nat) (b7:OA) (q7:Nat) (b8:OA) (q8:Nat),y=Gt x mach∧e=.returned (.agg (mmA y b5 q5 b6 q6 b7 q7 b8 q8))∧SliceC WntC 7 w.heap.size w' b5 y.wants∧SliceC RnC 11 w.heap.size w' b6 y.runs∧SliceC AksC 4 w.heap.size w' b7 y.asks∧SliceC AksC 4 w.heap.size w' b8 y.gives∧Below w.heap.size w w':=by
 obtain ⟨i0,hi,hz0,hz1,hz2⟩:=info_parts Ei;have HI:=iH hin;have HV:=iH hv;have HM:=iH hm;clear hin hm hv;have HKa:=Blk.alloc w (mmA x a5 c5 a6 c6 a7 c7 a8 c8) 32;have HZ2:=al2 w (mmA x a5 c5 a6 c6 a7 c7 a8 c8) 32 MmA 32;have HK2:=iH (HKa.below ((Below.refl _ _).alloc nL (Obj.cells MmA 32)) HKa.lt);have hB2:=bl2 w (mmA x a5 c5 a6 c6 a7 c7 a8 c8) 32 MmA 32;clear HKa;go_enter Tryz.func20,Tryz.ntmps20;go_upto_region 1 with fail;generalize (w.alloc (Obj.cells (mmA x a5 c5 a6 c6 a7 c7 a8 c8) 32)).alloc (Obj.cells MmA 32)=w2 at *;go_wp2_with (refine qLk Cu HK2 ?_);refine (Iq x a5 c5 a6 c6 a7 c7 a8 c8 lo _ (Nq HM (HI.out.below hB2 nL))).mono ?_;rintro e w3 ⟨rfl,hb3⟩;have HK3:=qBk HK2 hb3;have HZ3:=qBk HZ2 hb3;have hB3:=qTr hB2 hb3;clear hb3 HK2 HZ2 hB2;have HTS:=iH HZ3.out.there
 cases hmv:mvB x with
 | false =>
  have hy:Gp=Gt x mach:=by unfold Gt;rw [hmv];rfl
  obtain ⟨wf,HE⟩:∃ wf,Hid (wf=w3.setCells (w.heap.size+1) 0 MmL):=⟨_,rfl⟩;have HRf:Hid (wf.rangeAt (w.heap.size+1) 0 MmL):=by
   show World.rangeAt _ _ _ _
   rw [HE.out];exact World.rangeAt_setCells_same _ _ _ _ HTS
  have hBf:Below w.heap.size w wf:=by
   rw [HE.out];exact Aa (by omega) _ _ _ hB3
  have HYY:=iH hy;clear hB3 hmv hy;go_wp2_with (refine Ab rfl 32 _ _ rfl (w.heap.size+1) 0 MmA (by first | rfl | (simp [go_sem];done)) rfl HTS Am (by simp [Value.oneCell']) wf HE ?_);exact bodyPost_ret (Ai rfl _ _ (w.heap.size+1) MmL _ rfl HRf Tryz.underlying32 rfl Am) rfl ⟨Gp,none,0,none,0,none,0,none,0,HYY,rfl,SliceC.nil,SliceC.nil,SliceC.nil,SliceC.nil,hBf⟩
 | true =>
  have HMV:=iH hmv;clear hmv HTS;have k0:w3.cell? ⟨w.heap.size,0,none⟩=some (.string x.name):=HK3.out.cell rfl;have k2:w3.cell? ⟨w.heap.size,2,none⟩=some (.int .i64 x.clock):=HK3.out.cell rfl;have hb4:=(Below.refl _ w3).alloc nL (Obj.cells #[.string x.name,.bool false,.int .i64 x.clock,.bool false,.int .i64 0,.slice none 0 0,.slice none 0 0,.slice none 0 0,.slice none 0 0] 32);have HP4:=iH (Blk.alloc w3 #[.string x.name,.bool false,.int .i64 x.clock,.bool false,.int .i64 0,.slice none 0 0,.slice none 0 0,.slice none 0 0,.slice none 0 0] 32);have HK4:=qBk HK3 hb4;have HZ4:=qBk HZ3 hb4;have hB4:=qTr hB3 hb4;have hgl:w.heap.size+1<w3.heap.size:=HZ3.out.lt;clear hb4 HK3 HZ3 hB3;go_upto_region 4 with fail;clear k0 k2;generalize w3.alloc (Obj.cells #[.string x.name,.bool false,.int .i64 x.clock,.bool false,.int .i64 0,.slice none 0 0,.slice none 0 0,.slice none 0 0,.slice none 0 0] 32)=w4 at *;generalize w3.heap.size=p at *;go_wp2_with fail;go_loopw [6] (fun i wr=>∃ (k:Nat) (a:OA) (q m:Nat),k≤x.runs.length∧i=.int .i64 k∧Hid (m=(Bs (x.runs.take k) mach).length)∧m≤k∧Hid (Blk w.heap.size (mmA x a5 c5 a6 c6 a7 c7 a8 c8) 32 wr)∧Hid (Blk (w.heap.size+1) MmA 32 wr)∧Hid (Blk p #[.string x.name,.bool false,.int .i64 x.clock,.bool false,.int .i64 0,.slice none 0 0,.slice a m q,.slice none 0 0,.slice none 0 0] 32 wr)∧Hid (wr.ownsRow (p+1) 88 11 (.slice a m q) m (Aq (Bs (x.runs.take k) mach)))∧Below w.heap.size w wr) (fun i _=>x.runs.length - (intOf i).toNat)
  case atStart=>exact ⟨0,none,0,0,zL,rfl,rfl,Nat.le_refl _,HK4,HZ4,HP4,World.ownsRow_nil _ _ _ _,hB4⟩
  case round =>
   clear HK4 HZ4 HP4 hB4;obtain ⟨k,a1,q,m,hk,rfl,HML,hmk,HK,HZ,HP,HO,hB⟩:=hrel;have hl6:=HM.out.l6;by_cases hlt:k<x.runs.length
   case neg =>
    have hke:k=x.runs.length:=by omega
    subst hke;rw [List.take_length] at HML HO;have HE0:=HML.out;subst HE0;have HYY:Hid (⟨x.name,false,x.clock,false,0,[],Bs x.runs mach,[],[]⟩=Gt x mach):=by show _=_;unfold Gt;rw [HMV.out,Vq];rfl
    have HLS:=iH (Yx (m:=mach) HM.out.l6 HM.out.z6);have k6:wr.cell? ⟨w.heap.size,6,none⟩=some (.slice a6 x.runs.length c6):=HK.out.cell rfl;have hpl:p<wr.heap.size:=HP.out.lt;go_wp2_with (refine qLk Cu HP ?_);clear k6;refine (Tx ⟨x.name,false,x.clock,false,0,[],Bs x.runs mach,[],[]⟩ none 0 a1 q none 0 none 0 _ _ ⟨SliceC.nil,Dl HO HLS.out.1 HLS.out.2,SliceC.nil,SliceC.nil,fun _ _ _ e=>(by cases e),Jp HO,fun _ _ _ e=>(by cases e),fun _ _ _ e=>(by cases e)⟩ ⟨fun _=>⟨rfl,rfl⟩,aR HO,fun _=>⟨rfl,rfl⟩,fun _=>⟨rfl,rfl⟩⟩ ⟨HM.out.nm,fun _ h=>(by cases h),HLS.out.2,fun _ h=>(by cases h),fun _ h=>(by cases h),zL,HLS.out.1,zL,zL⟩).mono ?_;rintro e wn ⟨b5,q5,b6,q6,b7,q7,b8,q8,rfl,p5,p6,p7,p8,hbn⟩;have HZn:=qBk HZ hbn;have hBn:=qTr hB hbn;have P5:=iH p5;have P6:=iH p6;have P7:=iH p7;have P8:=iH p8;have HTZ:=iH HZn.out.there;obtain ⟨wf,HE⟩:∃ wf,Hid (wf=wn.setCells (w.heap.size+1) 0 [.string x.name,.bool false,.int .i64 x.clock,.bool false,.int .i64 0,.slice (some ⟨b5,0,none⟩) 0 q5,.slice (some ⟨b6,0,none⟩) (Bs x.runs mach).length q6,.slice (some ⟨b7,0,none⟩) 0 q7,.slice (some ⟨b8,0,none⟩) 0 q8]):=⟨_,rfl⟩;have HRf:Hid (wf.rangeAt (w.heap.size+1) 0 [.string x.name,.bool false,.int .i64 x.clock,.bool false,.int .i64 0,.slice (some ⟨b5,0,none⟩) 0 q5,.slice (some ⟨b6,0,none⟩) (Bs x.runs mach).length q6,.slice (some ⟨b7,0,none⟩) 0 q7,.slice (some ⟨b8,0,none⟩) 0 q8]):=by
     show World.rangeAt _ _ _ _
     rw [HE.out];exact World.rangeAt_setCells_same _ _ _ _ HTZ
    have hBf:Below w.heap.size w wf:=by
     rw [HE.out];exact Aa (by omega) _ _ _ hBn
    have hgw:w.heap.size+1<wr.heap.size:=HZ.out.lt;replace P5:=iH (show SliceC WntC 7 w.heap.size wf _ _ by rw [HE.out];exact P5.out.keep WntC.holds (Keeps.setCells hgw _ _ _) (by omega));replace P6:=iH (show SliceC RnC 11 w.heap.size wf _ _ by rw [HE.out];exact P6.out.keep RnC.holds (Keeps.setCells hgw _ _ _) (by omega));replace P7:=iH (show SliceC AksC 4 w.heap.size wf _ _ by rw [HE.out];exact P7.out.keep AksC.holds (Keeps.setCells hgw _ _ _) (by omega));replace P8:=iH (show SliceC AksC 4 w.heap.size wf _ _ by rw [HE.out];exact P8.out.keep AksC.holds (Keeps.setCells hgw _ _ _) (by omega));clear p5 p6 p7 p8 hbn hBn HZn;go_wp2_with (refine Ab rfl 32 _ _ rfl (w.heap.size+1) 0 #[.string x.name,.bool false,.int .i64 x.clock,.bool false,.int .i64 0,.slice (some ⟨b5,0,none⟩) 0 q5,.slice (some ⟨b6,0,none⟩) (Bs x.runs mach).length q6,.slice (some ⟨b7,0,none⟩) 0 q7,.slice (some ⟨b8,0,none⟩) 0 q8] (by first | rfl | (simp [go_sem];done)) rfl HTZ Am (by simp [Value.oneCell']) wf HE ?_);exact bodyPost_ret (Ai rfl _ _ (w.heap.size+1) [.string x.name,.bool false,.int .i64 x.clock,.bool false,.int .i64 0,.slice (some ⟨b5,0,none⟩) 0 q5,.slice (some ⟨b6,0,none⟩) (Bs x.runs mach).length q6,.slice (some ⟨b7,0,none⟩) 0 q7,.slice (some ⟨b8,0,none⟩) 0 q8] _ rfl HRf Tryz.underlying32 rfl Am) rfl ⟨⟨x.name,false,x.clock,false,0,[],Bs x.runs mach,[],[]⟩,_,q5,_,q6,_,q7,_,q8,HYY,rfl,P5,P6,P7,P8,hBf⟩
   obtain ⟨r,hr⟩:=gXe hlt;obtain ⟨b,ob,e6,_,hbl,hc⟩:=(HI.out.s6.below RnC.holds hB nL).at hr;subst e6;have HRA:=iH (Bc hc);have HST:=iH (aI (m:=mach) hr);have k6:wr.cell? ⟨w.heap.size,6,none⟩=some (.slice (some ⟨b,ob,none⟩) x.runs.length c6):=HK.out.cell rfl;have hpw:p<wr.heap.size:=HP.out.lt;clear hc hr;have hb4:=(Below.refl _ wr).alloc nL (Obj.cells (rrA r) 88);have HR4:=iH (Blk.alloc wr (rrA r) 88);have HK4:=qBk HK hb4;have HZ4:=qBk HZ hb4;have HP4:=qBk HP hb4;have HO4:=iH (Ae HO hb4);have HU4:=iH (Cw HO);have hB4:=qTr hB hb4;clear hb4 HK HZ HP HO hB;go_upto_region 8 with (refine qLr Bi HRA ?_);clear HRA k6;generalize wr.alloc (Obj.cells (rrA r) 88)=w4 at *;generalize wr.heap.size=h at *;go_wp2_with (refine qLk Bi HR4 ?_);refine (Av r _).mono ?_;rintro e w5 ⟨rfl,hb5⟩;have HK5:=qBk HK4 hb5;have HZ5:=qBk HZ4 hb5;have HP5:=qBk HP4 hb5;have HR5:=qBk HR4 hb5;have HO5:=iH (Ae HO4 hb5);have hB5:=qTr hB4 hb5;have hhl:h<w5.heap.size:=HR5.out.lt;clear hb5 HK4 HZ4 HP4 HR4 HO4 hB4
   cases mach with
   | false =>
    cases g1:alB r.state with
    | false =>
     have HO9:Hid (w5.ownsRow (p+1) 88 11 (.slice a1 m q) m (Aq (Bs (x.runs.take (k+1)) false))):=by
      show World.ownsRow _ _ _ _ _ _ _
      rw [HST.out,Oy (by unfold Ek;rw [g1];rfl),List.append_nil];exact HO5.out
     have HML2:Hid (m=(Bs (x.runs.take (k+1)) false).length):=by
      show _=_
      rw [HST.out,Oy (by unfold Ek;rw [g1];rfl),List.append_nil];exact HML.out
     clear g1 HU4;go_wp2_with fail;go_roundw
     case rel=>exact ⟨k+1,a1,q,m,by omega,by go_num,HML2,by omega,HK5,HZ5,HP5,HO9,hB5⟩
     case measure=>simp [intOf];omega
    | true =>
     have hapx:Bs [r] false=[r]:=by simp [Bs,Ek,g1]
     have HAP:=iH hapx;clear hapx;obtain ⟨NV,hnv⟩:∃ l,l=Dv (r):=⟨_,rfl⟩;have HNV:=iH hnv;clear hnv;have HNL:Hid (NV.length=1*11):=by show _=_;rw [HNV.out];rfl
     have HNN:Hid (∀ j u,NV[j]?=some u→(w5.alloc (Obj.cells (rrA r) 88)).cell? ((⟨w5.heap.size,0,none⟩:Addr).add j)=some u):=by
      intro j u hj;rw [Addr.add_mid];rw [HNV.out] at hj;exact (Blk.alloc w5 (rrA r) 88).rangeA j u hj
     have HN1:Hid (∀ u∈NV,u.oneCell'=true):=by
      intro u hu;rw [HNV.out] at hu;exact Ca [r] u (by simp only [Aq,List.append_nil];exact hu)
     have HOA:=iH (HO5.out.alloc (Obj.cells (rrA r) 88));have hpl:p<w5.heap.size:=HP5.out.lt;have k6:w5.cell? ⟨p,6,none⟩=some (.slice a1 m q):=HP5.out.cell rfl;go_upto_region 6 with (first | (refine qLk Bi HR5 ?_) | (at_builtin;refine wpList_append_own _ rfl _ _ 29 rfl (p+1) 88 i0 _ 11 104 Tryz.underlying29 hi hz0 hz1 hz2 rfl (by decide) _ m _ rfl HOA ⟨w5.heap.size,0,none⟩ 1 1 NV rfl HNL HNN HN1 (by unfold maxLen;omega) (by omega) (by simp;omega) ?_;intro v' w8 hown8 hgrow8 hnil8;have hv8:v'≠.slice none 0 0:=(fun e=>by have h9:=(hnil8.1 e).2;cases h9);obtain ⟨g8,q8,rfl⟩:=Co hown8 hv8;have hb8:Below (p+1) w5 w8:=((Below.refl (p+1) w5).alloc (by omega) _).grown hgrow8 (by simp;omega) (Pm HO5);have HP8:=iH (HP5.out.below hb8 (Nat.lt_succ_self _));have kx:w8.cell? ⟨p,6,none⟩=some (.slice a1 m q):=HP8.out.cell rfl;have fx:w8.frozen? ⟨p,6,none⟩=false:=HP8.out.frozen _;have HOW:=iH hown8;have HBB:=iH hb8;clear hown8 hgrow8 hnil8 hv8 hb8));clear kx fx k6;have HK8:=iH (HK5.out.below HBB (by omega));have HZ8:=iH (HZ5.out.below HBB (by omega));have hB8:=hB5.trans (HBB.out.mono (by omega));have HO9:Hid ((w8.setCell ⟨p,6,none⟩ (.slice (some ⟨g8,0,none⟩) (m+1) q8)).ownsRow (p+1) 88 11 (.slice (some ⟨g8,0,none⟩) (m+1) q8) (m+1) (Aq (Bs (x.runs.take (k+1)) false))):=by
      have h:=HOW.out;rw [HNV.out] at h;have hg8:=Ob h;show World.ownsRow _ _ _ _ _ _ _
      rw [HST.out,HAP.out,Jh];simp only [Aq,List.append_nil];exact Dm h _ (fun g c e=>by cases e;show g8≠p;omega)
     have HML2:Hid (m+1=(Bs (x.runs.take (k+1)) false).length):=by
      show _=_
      rw [HST.out,HAP.out,List.length_append,← HML.out];rfl
     have HP9:Hid (Blk p #[.string x.name,.bool false,.int .i64 x.clock,.bool false,.int .i64 0,.slice none 0 0,.slice (some ⟨g8,0,none⟩) (m+1) q8,.slice none 0 0,.slice none 0 0] 32 (w8.setCell ⟨p,6,none⟩ (.slice (some ⟨g8,0,none⟩) (m+1) q8))):=HP8.out.set 6 _;have HK9:Hid (Blk w.heap.size (mmA x a5 c5 (some ⟨b,ob,none⟩) c6 a7 c7 a8 c8) 32 (w8.setCell ⟨p,6,none⟩ (.slice (some ⟨g8,0,none⟩) (m+1) q8))):=HK8.out.other (a:=⟨p,6,none⟩) (show w.heap.size≠p by omega) _;have HZ9:Hid (Blk (w.heap.size+1) MmA 32 (w8.setCell ⟨p,6,none⟩ (.slice (some ⟨g8,0,none⟩) (m+1) q8))):=HZ8.out.other (a:=⟨p,6,none⟩) (show w.heap.size+1≠p by omega) _;have hB9:Below w.heap.size w (w8.setCell ⟨p,6,none⟩ (.slice (some ⟨g8,0,none⟩) (m+1) q8)):=hB8.setCell (p:=⟨p,6,none⟩) (show w.heap.size≤p by omega) _;clear HOW HBB HK8 HZ8 hB8 HP8;generalize w8.setCell ⟨p,6,none⟩ (.slice (some ⟨g8,0,none⟩) (m+1) q8)=w9 at *;go_wp2_with fail;go_roundw
     case rel=>exact ⟨k+1,some ⟨g8,0,none⟩,q8,m+1,by omega,by go_num,HML2,by omega,HK9,HZ9,HP9,HO9,hB9⟩
     case measure=>simp [intOf];omega
   | true =>
    have s7:w5.cell? ⟨h,7,none⟩=some (.int .i64 r.state):=HR5.out.cell rfl;have t7:w5.frozen? ⟨h,7,none⟩=false:=HR5.out.frozen _;have HRx:Hid (Blk h #[.string r.want.copy,.int .i64 r.want.version,.string r.want.hold,.int .i64 r.want.pull,.int .i64 r.want.start,.int .i64 r.want.dies,.int .i64 r.want.grace,.int .i64 2,.int .i64 r.left,.int .i64 r.falls,.int .i64 r.until_] 88 (w5.setCell ⟨h,7,none⟩ (.int .i64 2))):=HR5.out.set 7 _;have s8:(w5.setCell ⟨h,7,none⟩ (.int .i64 2)).cell? ⟨h,8,none⟩=some (.int .i64 r.left):=HRx.out.cell rfl;have t8:(w5.setCell ⟨h,7,none⟩ (.int .i64 2)).frozen? ⟨h,8,none⟩=false:=HRx.out.frozen _;have HR6:Hid (Blk h #[.string r.want.copy,.int .i64 r.want.version,.string r.want.hold,.int .i64 r.want.pull,.int .i64 r.want.start,.int .i64 r.want.dies,.int .i64 r.want.grace,.int .i64 2,.int .i64 0,.int .i64 r.falls,.int .i64 r.until_] 88 ((w5.setCell ⟨h,7,none⟩ (.int .i64 2)).setCell ⟨h,8,none⟩ (.int .i64 0))):=HRx.out.set 8 _;have HK6:Hid (Blk w.heap.size (mmA x a5 c5 (some ⟨b,ob,none⟩) c6 a7 c7 a8 c8) 32 ((w5.setCell ⟨h,7,none⟩ (.int .i64 2)).setCell ⟨h,8,none⟩ (.int .i64 0))):=(HK5.out.other (a:=⟨h,7,none⟩) (show w.heap.size≠h by omega) _).other (a:=⟨h,8,none⟩) (show w.heap.size≠h by omega) _;have HZ6:Hid (Blk (w.heap.size+1) MmA 32 ((w5.setCell ⟨h,7,none⟩ (.int .i64 2)).setCell ⟨h,8,none⟩ (.int .i64 0))):=(HZ5.out.other (a:=⟨h,7,none⟩) (show (w.heap.size+1)≠h by omega) _).other (a:=⟨h,8,none⟩) (show (w.heap.size+1)≠h by omega) _;have HP6:Hid (Blk p #[.string x.name,.bool false,.int .i64 x.clock,.bool false,.int .i64 0,.slice none 0 0,.slice a1 m q,.slice none 0 0,.slice none 0 0] 32 ((w5.setCell ⟨h,7,none⟩ (.int .i64 2)).setCell ⟨h,8,none⟩ (.int .i64 0))):=(HP5.out.other (a:=⟨h,7,none⟩) (show p≠h by omega) _).other (a:=⟨h,8,none⟩) (show p≠h by omega) _;have HO6:Hid (((w5.setCell ⟨h,7,none⟩ (.int .i64 2)).setCell ⟨h,8,none⟩ (.int .i64 0)).ownsRow (p+1) 88 11 (.slice a1 m q) m (Aq (Bs (x.runs.take k) true))):=Dm (Dm HO5 _ (fun g c e=>Nat.ne_of_lt (HU4 g 0 none (by injection e)))) _ (fun g c e=>Nat.ne_of_lt (HU4 g 0 none (by injection e)));have hB6:Below w.heap.size w ((w5.setCell ⟨h,7,none⟩ (.int .i64 2)).setCell ⟨h,8,none⟩ (.int .i64 0)):=(hB5.setCell (p:=⟨h,7,none⟩) (show w.heap.size≤h by omega) _).setCell (p:=⟨h,8,none⟩) (show w.heap.size≤h by omega) _;clear HRx HR5 HK5 HZ5 HP5 HO5 hB5 HU4;go_upto_region 12 with fail;clear s7 t7 s8 t8;generalize ((w5.setCell ⟨h,7,none⟩ (.int .i64 2)).setCell ⟨h,8,none⟩ (.int .i64 0))=w6 at *;have k2:w6.cell? ⟨h,2,none⟩=some (.string r.want.hold):=HR6.out.cell rfl
    cases g1:alB r.state with
    | false =>
     have HO9:Hid (w6.ownsRow (p+1) 88 11 (.slice a1 m q) m (Aq (Bs (x.runs.take (k+1)) true))):=by
      show World.ownsRow _ _ _ _ _ _ _
      rw [HST.out,Oy (by unfold Ek;rw [g1];rfl),List.append_nil];exact HO6.out
     have HML2:Hid (m=(Bs (x.runs.take (k+1)) true).length):=by
      show _=_
      rw [HST.out,Oy (by unfold Ek;rw [g1];rfl),List.append_nil];exact HML.out
     clear g1;go_wp2_with fail;go_roundw
     case rel=>exact ⟨k+1,a1,q,m,by omega,by go_num,HML2,by omega,HK6,HZ6,HP6,HO9,hB6⟩
     case measure=>simp [intOf];omega
    | true =>
     cases g2:(r.want.hold.toList == []) with
     | true =>
      have HO9:Hid (w6.ownsRow (p+1) 88 11 (.slice a1 m q) m (Aq (Bs (x.runs.take (k+1)) true))):=by
       show World.ownsRow _ _ _ _ _ _ _
       rw [HST.out,Oy (by unfold Ek;rw [g1,g2];rfl),List.append_nil];exact HO6.out
      have HML2:Hid (m=(Bs (x.runs.take (k+1)) true).length):=by
       show _=_
       rw [HST.out,Oy (by unfold Ek;rw [g1,g2];rfl),List.append_nil];exact HML.out
      have g3:r.want.hold.toList.isEmpty=true:=by simpa using g2
      clear g1 g2;go_wp2_with fail;go_roundw
      case rel=>exact ⟨k+1,a1,q,m,by omega,by go_num,HML2,by omega,HK6,HZ6,HP6,HO9,hB6⟩
      case measure=>simp [intOf];omega
     | false =>
      have g3:r.want.hold.toList.isEmpty=false:=by simpa using g2
      have hapx:Bs [r] true=[Dj r]:=by simp [Bs,Ek,g1,g2]
      have HAP:=iH hapx;clear hapx;obtain ⟨NV,hnv⟩:∃ l,l=Dv (Dj r):=⟨_,rfl⟩;have HNV:=iH hnv;clear hnv;have HNL:Hid (NV.length=1*11):=by show _=_;rw [HNV.out];rfl
      have HNN:Hid (∀ j u,NV[j]?=some u→(w6.alloc (Obj.cells #[.string r.want.copy,.int .i64 r.want.version,.string r.want.hold,.int .i64 r.want.pull,.int .i64 r.want.start,.int .i64 r.want.dies,.int .i64 r.want.grace,.int .i64 2,.int .i64 0,.int .i64 r.falls,.int .i64 r.until_] 88)).cell? ((⟨w6.heap.size,0,none⟩:Addr).add j)=some u):=by
       intro j u hj;rw [Addr.add_mid];rw [HNV.out] at hj;exact (Blk.alloc w6 #[.string r.want.copy,.int .i64 r.want.version,.string r.want.hold,.int .i64 r.want.pull,.int .i64 r.want.start,.int .i64 r.want.dies,.int .i64 r.want.grace,.int .i64 2,.int .i64 0,.int .i64 r.falls,.int .i64 r.until_] 88).rangeA j u hj
      have HN1:Hid (∀ u∈NV,u.oneCell'=true):=by
       intro u hu;rw [HNV.out] at hu;exact Ca [Dj r] u (by simp only [Aq,List.append_nil];exact hu)
      have HOA:=iH (HO6.out.alloc (Obj.cells #[.string r.want.copy,.int .i64 r.want.version,.string r.want.hold,.int .i64 r.want.pull,.int .i64 r.want.start,.int .i64 r.want.dies,.int .i64 r.want.grace,.int .i64 2,.int .i64 0,.int .i64 r.falls,.int .i64 r.until_] 88));have hpl:p<w6.heap.size:=HP6.out.lt;have k6:w6.cell? ⟨p,6,none⟩=some (.slice a1 m q):=HP6.out.cell rfl;go_upto_region 6 with (first | (refine qLk Bi HR6 ?_) | (at_builtin;refine wpList_append_own _ rfl _ _ 29 rfl (p+1) 88 i0 _ 11 104 Tryz.underlying29 hi hz0 hz1 hz2 rfl (by decide) _ m _ rfl HOA ⟨w6.heap.size,0,none⟩ 1 1 NV rfl HNL HNN HN1 (by unfold maxLen;omega) (by omega) (by simp;omega) ?_;intro v' w8 hown8 hgrow8 hnil8;have hv8:v'≠.slice none 0 0:=(fun e=>by have h9:=(hnil8.1 e).2;cases h9);obtain ⟨g8,q8,rfl⟩:=Co hown8 hv8;have hb8:Below (p+1) w6 w8:=((Below.refl (p+1) w6).alloc (by omega) _).grown hgrow8 (by simp;omega) (Pm HO6);have HP8:=iH (HP6.out.below hb8 (Nat.lt_succ_self _));have kx:w8.cell? ⟨p,6,none⟩=some (.slice a1 m q):=HP8.out.cell rfl;have fx:w8.frozen? ⟨p,6,none⟩=false:=HP8.out.frozen _;have HOW:=iH hown8;have HBB:=iH hb8;clear hown8 hgrow8 hnil8 hv8 hb8));clear kx fx k6;have HK8:=iH (HK6.out.below HBB (by omega));have HZ8:=iH (HZ6.out.below HBB (by omega));have hB8:=hB6.trans (HBB.out.mono (by omega));have HO9:Hid ((w8.setCell ⟨p,6,none⟩ (.slice (some ⟨g8,0,none⟩) (m+1) q8)).ownsRow (p+1) 88 11 (.slice (some ⟨g8,0,none⟩) (m+1) q8) (m+1) (Aq (Bs (x.runs.take (k+1)) true))):=by
       have h:=HOW.out;rw [HNV.out] at h;have hg8:=Ob h;show World.ownsRow _ _ _ _ _ _ _
       rw [HST.out,HAP.out,Jh];simp only [Aq,List.append_nil];exact Dm h _ (fun g c e=>by cases e;show g8≠p;omega)
      have HML2:Hid (m+1=(Bs (x.runs.take (k+1)) true).length):=by
       show _=_
       rw [HST.out,HAP.out,List.length_append,← HML.out];rfl
      have HP9:Hid (Blk p #[.string x.name,.bool false,.int .i64 x.clock,.bool false,.int .i64 0,.slice none 0 0,.slice (some ⟨g8,0,none⟩) (m+1) q8,.slice none 0 0,.slice none 0 0] 32 (w8.setCell ⟨p,6,none⟩ (.slice (some ⟨g8,0,none⟩) (m+1) q8))):=HP8.out.set 6 _;have HK9:Hid (Blk w.heap.size (mmA x a5 c5 (some ⟨b,ob,none⟩) c6 a7 c7 a8 c8) 32 (w8.setCell ⟨p,6,none⟩ (.slice (some ⟨g8,0,none⟩) (m+1) q8))):=HK8.out.other (a:=⟨p,6,none⟩) (show w.heap.size≠p by omega) _;have HZ9:Hid (Blk (w.heap.size+1) MmA 32 (w8.setCell ⟨p,6,none⟩ (.slice (some ⟨g8,0,none⟩) (m+1) q8))):=HZ8.out.other (a:=⟨p,6,none⟩) (show w.heap.size+1≠p by omega) _;have hB9:Below w.heap.size w (w8.setCell ⟨p,6,none⟩ (.slice (some ⟨g8,0,none⟩) (m+1) q8)):=hB8.setCell (p:=⟨p,6,none⟩) (show w.heap.size≤p by omega) _;clear HOW HBB HK8 HZ8 hB8 HP8;generalize w8.setCell ⟨p,6,none⟩ (.slice (some ⟨g8,0,none⟩) (m+1) q8)=w9 at *;go_wp2_with fail;go_roundw
      case rel=>exact ⟨k+1,some ⟨g8,0,none⟩,q8,m+1,by omega,by go_num,HML2,by omega,HK9,HZ9,HP9,HO9,hB9⟩
      case measure=>simp [intOf];omega
end Go.Proofs.YtkiloaiffopllaaGreat
