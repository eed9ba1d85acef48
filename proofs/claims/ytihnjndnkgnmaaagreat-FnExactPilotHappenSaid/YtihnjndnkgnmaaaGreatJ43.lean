import Derived.Test.YtihnjndnkgnmaaaGreatJ42
set_option maxHeartbeats 8000000
set_option maxRecDepth 100000
namespace Go.Proofs.YtihnjndnkgnmaaaGreat
open Go.RowKit
section
variable {α β:Type} {V:α→Value→List Value} {sub:α→List β} {C:Db β} {m n f:Nat}
theorem OwnA.kept {T:TypeId} {base:Nat} {w w':World} {v:Value} {l:List α} {row:Option Nat} (hC:FlatC C m) (h:OwnA V sub C m n f T base w v l) (hg:w.grownBy w' row) (hr:∀ r,row=some r→r<base):OwnA V sub C m n f T base w' v l:=by
 obtain ⟨cs,h1,h2,h3⟩:=h;have hv:v.ownBlock=none∨v.ownBlock≠row:=by
  cases e:v.ownBlock with
  | none=>exact .inl rfl
  | some k =>
   refine .inr (fun e2=>?_);have:=(h1.lt k e).1;have:=hr k e2.symm;omega
 refine ⟨cs,h1.kept hg hv,fun j x hj=>?_,h3⟩;obtain ⟨ae,ce,q1,q2,q3⟩:=h2 j x hj;refine ⟨ae,ce,q1,Ai hC q2 hg (fun b o e hn e2=>?_),fun b o e hn=>⟨(q3 b o e hn).1,lL (q3 b o e hn).2 hg.size⟩⟩;have hb:=hr b e2.symm;rcases q2.2 with h9 | ⟨b',o',e',⟨hlo,_⟩,_⟩
 ·exact hn h9
 ·rw [e] at e'
  cases e'
  omega
def KpB (lo:Nat) (a b:World):Prop:=a.heap.size≤b.heap.size∧∀ x,lo≤x→x<a.heap.size→b.heap[x]?=a.heap[x]?
theorem KpB.below {lo:Nat} {a b:World} (h:Below a.heap.size a b):KpB lo a b:=⟨h.size,fun x _ h3=>h.block x h3⟩
theorem KpB.trans {lo:Nat} {a b c:World} (h:KpB lo a b) (k:KpB lo b c):KpB lo a c:=⟨lT h.1 k.1,fun x h1 h3=>(k.2 x h1 (lL h3 h.1)).trans (h.2 x h1 h3)⟩
def mC (V:α→Value→List Value) (sub:α→List β) (C:Db β) (m n f:Nat) (T:TypeId) (base top:Nat) (w:World) (v:Value) (l:List α):Prop:=∃ W,OwnA V sub C m n f T base W v l∧W.heap.size≤top∧KpB base W w
end
theorem KpB.sets {lo b:Nat} {a c:World} (h:KpB lo a c) (hb:b<lo) (vs:List Value) (o:Nat):KpB lo a (c.setCells b o vs):=h.trans ⟨(Ao vs o c).size,fun x h1 h3=>(Ao vs o c).block x h3 (fun e=>by cases e;omega)⟩
def NwRes (x:Flt) (w:World) (e:Ending) (w':World):Prop:=∃ (g1:OA) (q1:Nat) (g2:OA) (q2:Nat) (g3:OA) (q3 B1 B2 B3:Nat),e=.returned (.agg (ffA x g1 q1 g2 q2 g3 q3))∧0<B1∧w.heap.size≤B1∧B1≤B2∧B2≤B3∧B3≤w'.heap.size
 ∧ mC vBr Brt.marks StrC 1 6 2 45 B1 B2 w' (.slice g1 x.berths.length q1) x.berths∧fO B1 w' (.slice g1 x.berths.length q1) x.berths
 ∧ w'.ownsRow B2 94 2 (.slice g2 x.services.length q2) x.services.length (Cy x.services)∧(∀ b,(Value.slice g2 x.services.length q2).ownBlock=some b→b<B3)
 ∧ aE B3 w' (.slice g3 x.copies.length q3) x.copies∧Below w.heap.size w w'
theorem Th (x:Flt) (a1:OA) (c1:Nat) (a2:OA) (c2:Nat) (a3:OA) (c3 lo:Nat) (w:World) (n1:SliceC BrtC 6 lo w a1 x.berths) (n2:SliceC SvcC 2 lo w a2 x.services) (n3:SliceC CpyC 12 lo w a3 x.copies) (hls:x.services.length≤1048576) (hlb:x.berths.length≤1048576) (hlc:x.copies.length≤1048576) (hsb:SmB x.berths) (hss:Ra x.services 1048576) (hsc:SmC x.copies) :
  Calls Tryz.prog 30 #[.agg (ffA x a1 c1 a2 c2 a3 c3)] w fun e w'=>NwRes x w e w':=by
 have HN1:=iH n1;have HN2:=iH n2;have HN3:=iH n3;have HSB:=iH hsb;have HSS:=iH hss;have HSC:=iH hsc;clear n1 n2 n3 hsb hss hsc;have hB3:=bl2 w (ffA x a1 c1 a2 c2 a3 c3) 41 zzA 41;have h1:=Blk.alloc w (ffA x a1 c1 a2 c2 a3 c3) 41;have HX:=iH (h1.below ((Below.refl _ _).alloc nL (Obj.cells zzA 41)) h1.lt);have HZ:=al2 w (ffA x a1 c1 a2 c2 a3 c3) 41 zzA 41;clear h1;go_enter Tryz.func30,Tryz.ntmps30;go_upto_region 1 with fail;generalize ((w.alloc (Obj.cells (ffA x a1 c1 a2 c2 a3 c3) 41)).alloc (Obj.cells zzA 41))=w3 at *;refine wp_region_held_drew (S:=fun wy=>Blk w.heap.size (ffA x a1 c1 a2 c2 a3 c3) 41 wy) (by kernel_rfl) HX.out.drew (fun hS=>?_);have hB4:=hB3.drew;have HZ4:=iH HZ.out.drew;have hl4:w.heap.size+1<w3.drew.heap.size:=HZ4.out.lt;clear HX HZ hB3;generalize w3.drew=w4 at *;refine tz 0 3 (.pointer (some ⟨w.heap.size,0,none⟩)) rfl hS ?_;simp only [pX];refine ty 1 ⟨some 4,_,_,_,_,none⟩ (.bool x.pack) rfl (by rfl) ?_ hS ?_
 ·intro wy hy
  have h0:=Blk.cell hy (o:=0) rfl;clear hy;go_simp
 simp only [pX];refine tz 2 5 (.pointer (some ⟨w.heap.size,1,none⟩)) rfl hS ?_;simp only [pX];refine ty 3 ⟨some 6,_,_,_,_,none⟩ (.slice a1 x.berths.length c1) rfl (by rfl) ?_ hS ?_
 ·intro wy hy
  have h0:=Blk.cell hy (o:=1) rfl;clear hy;go_simp
 simp only [pX];refine tz 5 8 (.pointer (some ⟨w.heap.size,2,none⟩)) rfl hS ?_;simp only [pX];refine ty 6 ⟨some 9,_,_,_,_,none⟩ (.slice a2 x.services.length c2) rfl (by rfl) ?_ hS ?_
 ·intro wy hy
  have h0:=Blk.cell hy (o:=2) rfl;clear hy;go_simp
 simp only [pX];refine tz 8 11 (.pointer (some ⟨w.heap.size,3,none⟩)) rfl hS ?_;simp only [pX];refine ty 9 ⟨some 12,_,_,_,_,none⟩ (.slice a3 x.copies.length c3) rfl (by rfl) ?_ hS ?_
 ·intro wy hy
  have h0:=Blk.cell hy (o:=3) rfl;clear hy;go_simp
 simp only [pX];refine rd1 4 ⟨some 7,_,_,_,_,none⟩ rfl (fun K hK=>?_);go_simp;refine (Vz x.berths a1 c1 lo _ (HN1.out.below BrtC.holds hB4 nL) hlb HSB).mono ?_;rintro e w5 ⟨g1,q1,rfl,hO1,hb⟩;have HO1:=iH hO1;have hB5:=qt hB4 hb;have HZ5:=qb HZ4 hb;have hs5:w4.heap.size≤w5.heap.size:=hb.size;clear hO1 HZ4;refine hK.out _ _ (Blk.below hS hb (Blk.lt hS)) (fun hS=>?_);clear hK K hb;refine rd1 7 ⟨some 10,_,_,_,_,none⟩ rfl (fun K hK=>?_);go_simp;refine (Vy x.services a2 c2 lo _ (HN2.out.below SvcC.holds hB5 nL) hls HSS).mono ?_;rintro e w6 ⟨g2,q2,rfl,hO2,hb⟩;have HO2:=iH hO2;have HK6:Hid (KpB w4.heap.size w5 w6):=KpB.below hb;have HO16:=iH (HO1.out.below StrC.holds hb);have hB6:=qt hB5 hb;have HZ6:=qb HZ5 hb;have hs6:w5.heap.size≤w6.heap.size:=hb.size;clear hO2 HZ5;refine hK.out _ _ (Blk.below hS hb (Blk.lt hS)) (fun hS=>?_);clear hK K hb;refine rd1 10 ⟨some 13,_,_,_,_,none⟩ rfl (fun K hK=>?_);go_simp;refine (Wg x.copies a3 c3 lo _ (HN3.out.below CpyC.holds hB6 nL) hlc HSC).mono ?_;rintro e w7 ⟨g3,q3,rfl,hO3,hb⟩;have HO3:=iH hO3;have HK7:Hid (KpB w4.heap.size w5 w7):=HK6.out.trans (KpB.below hb);have HO17:=iH (HO16.out.below StrC.holds hb);have HO27:=iH (Al HO2 hb);have HL2:Hid (∀ b,(Value.slice g2 x.services.length q2).ownBlock=some b→b<w6.heap.size):=fun b e=>(HO2.out.lt b e).2
 have hB7:=qt hB6 hb;have HZ7:=qb HZ6 hb;have hs7:w6.heap.size≤w7.heap.size:=hb.size;clear hO3 HZ6 HO16 HK6;refine hK.out _ _ (Blk.below hS hb (Blk.lt hS)) (fun hS=>?_);clear hK K hb;refine tz 11 14 (.agg (ffA x g1 q1 g2 q2 g3 q3)) rfl hS ?_;simp only [pX];refine rd1 12 ⟨none,_,_,_,_,none⟩ rfl (fun K hK=>?_);rw [if_pos (by rfl)];refine wp_store_mid 41 (.tmp 2) (.tmp 14) (by rfl) (w.heap.size+1) 0 (ffA x g1 q1 g2 q2 g3 q3) (by rfl) (by rfl) HZ7.out.there Ak (by simp [Value.oneCell']) ?_;obtain ⟨wf,HE⟩:∃ wf,Hid (wf=(w7.setCells (w.heap.size+1) 0 (ffL x g1 q1 g2 q2 g3 q3))):=⟨_,rfl⟩;have hgw:w7.grownBy wf (some (w.heap.size+1)):=by rw [HE.out];exact Ao _ _ _
 have hXf:Blk w.heap.size (ffA x a1 c1 a2 c2 a3 c3) 41 wf:=Blk.grown hS hgw (by intro e;have:=Option.some.inj e;omega);have HRf:Hid (wf.rangeAt (w.heap.size+1) 0 (ffL x g1 q1 g2 q2 g3 q3)):=by
  show World.rangeAt _ _ _ _
  rw [HE.out];exact World.rangeAt_setCells_same _ _ _ _ HZ7.out.there
 have HF:Hid (NwRes x w (.returned (.agg (ffA x g1 q1 g2 q2 g3 q3))) wf):=by
  have hr:∀ (B r:Nat),w4.heap.size≤B→some (w.heap.size+1)=some r→r<B:=fun B r hB e=>by cases e;omega
  refine ⟨g1,q1,g2,q2,g3,q3,w4.heap.size,w5.heap.size,w6.heap.size,rfl,by omega,by omega,hs5,hs6,lT hs7 hgw.size,⟨w5,HO1,Nat.le_refl _,?_⟩,HO17.out.kept StrC.flat hgw (fun r e=>hr _ r nL e),HO27.out.kept hgw ?_,HL2,HO3.out.kept LikC.flat hgw (fun r e=>hr _ r (by omega) e),?_⟩
  ·rw [HE.out];exact HK7.out.sets (by omega) _ _
  ·cases e:(Value.slice g2 x.services.length q2).ownBlock with
   | none=>exact .inl rfl
   | some b =>
    refine .inr (fun e2=>?_);have h8:=(HO27.out.lt b e).1;have h9:=Option.some.inj e2;omega
  ·exact hB7.grown hgw hB7.size (fun r e=>by cases e;omega)
 rw [← HE.out];refine hK.out _ _ hXf (fun hS=>?_);clear hK K;refine td ?_;clear hS hXf;go_wp2_with fail;exact bodyPost_ret (Ax rfl _ _ (w.heap.size+1) (ffL x g1 q1 g2 q2 g3 q3) _ rfl HRf Tryz.underlying41 rfl Ak) rfl HF
end Go.Proofs.YtihnjndnkgnmaaaGreat
namespace Go.Proofs.YtihnjndnkgnmaaaGreat
open Go.RowKit Go.WideMaps Go.Maps
theorem Dg {P:Program} {fn:Func} {p t:Tmp} {ty:TypeId} (h:fn.results=#[.cell p ty,.tmp t]) (tmps:Array Value) (w:World) (g:Nat) (cs:List Value) (d:TypeDesc)
  (hp:tmps.getD p undef=.pointer (some ⟨g,0,none⟩)) (hc:w.rangeAt g 0 cs) (hu:P.underlying ty=some d) (hd:d.isRow=true) (hi:(P.info? ty).map (·.size)=some cs.length) :
  (results fn tmps).run P w=.ok (.tuple #[.agg cs.toArray,tmps.getD t undef]) w:=by
 have hp':tmps[p]?.getD undef=.pointer (some ⟨g,0,none⟩):=by simpa using hp
 simp [results,h,hp',asAddr,run_loadVar_mid w g 0 ty cs d hc hu hd hi]
theorem NwRes.none {w w':World} (hw:w.heap.size<w'.heap.size) (hb:Below w.heap.size w w'):NwRes Inq w (.returned (.agg zzA)) w' :=
 ⟨.none,0,.none,0,.none,0,w.heap.size+1,w'.heap.size,w'.heap.size,rfl,by omega,by omega,hw,Nat.le_refl _,Nat.le_refl _,⟨w',OwnA.nil,Nat.le_refl _,KpB.below (Below.refl _ _)⟩,OwnA.nil,World.ownsRow_nil _ _ _ _,(fun b e=>by cases e),OwnA.nil,hb⟩
theorem NwRes.stored {x:Flt} {w w0 w':World} {e:Ending} {r:Nat} (h:NwRes x w0 e w') (hb:Below w.heap.size w w0) (h1:w.heap.size≤r) (h2:r<w0.heap.size) (vs:List Value):NwRes x w e (w'.setCells r 0 vs):=by
 obtain ⟨g1,q1,g2,q2,g3,q3,B1,B2,B3,a1,a2,a3,a4,a5,a6,⟨W,t1,t2,t3⟩,a8,a9,a10,a11,a12⟩:=h;have hg:=Ao (b:=r) vs 0 w';have hs:=Bf (b:=r) vs 0 w';refine ⟨g1,q1,g2,q2,g3,q3,B1,B2,B3,a1,a2,lT hb.size a3,a4,a5,by rw [hs];exact a6,⟨W,t1,t2,t3.sets (by omega) vs 0⟩,a8.kept StrC.flat hg (fun b e=>by cases e;omega),a9.kept hg ?_,a10,a11.kept LikC.flat hg (fun b e=>by cases e;omega),Ac h1 _ _ _ (qt hb a12)⟩
 cases e9:(Value.slice g2 x.services.length q2).ownBlock with
 | none=>exact .inl rfl
 | some b =>
  refine .inr (fun e2=>?_);have h9:=(a9.lt b e9).1;have e3:b=r:=Option.some.inj e2;omega
theorem jD {x:Flt} {w w':World} {e:Ending} (h:NwRes x w e w'):∃ u0 u1 u2 u3,e=.returned (.agg #[u0,u1,u2,u3]):=by
 obtain ⟨_,_,_,_,_,_,_,_,_,h1,_⟩:=h;exact ⟨_,_,_,_,h1⟩
theorem fU {x:Flt} {w w':World} {e:Ending} (h:NwRes x w e w'):Below w.heap.size w w':=by
 obtain ⟨_,_,_,_,_,_,_,_,_,_,_,_,_,_,_,_,_,_,_,_,h12⟩:=h;exact h12
theorem kN {x:Flt} {w w':World} {u0 u1 u2 u3:Value} (h:NwRes x w (.returned (.agg #[u0,u1,u2,u3])) w'):#[u0,u1,u2,u3].all (·.oneCell')=true:=by
 obtain ⟨_,_,_,_,_,_,_,_,_,h1,_⟩:=h;cases h1
 simp [Value.oneCell']
def lR (x:Flt) (v:Evt) (w:World) (e:Ending) (w':World):Prop:=∃ u,e=.returned (.tuple #[u,.int .i64 (Hj x v).2])∧NwRes (Hj x v).1 w (.returned u) w'
theorem lV {α:Type} (f:α→Nat):∀ (xs:List α) (x:α),x∈xs→f x≤(xs.map f).sum
 | [],_,h=>by cases h
 | a::r,x,h=>by
  rw [List.map_cons,List.sum_cons];rcases List.mem_cons.1 h with rfl | h
  ·omega
  ·have:=lV f r x h
   omega
theorem dW {α:Type} {f:α→Nat} {xs:List α} {x:α} (h:x∈xs):f x≤wS f xs:=by
 have:=lV f xs x h;unfold wS;omega
theorem Wm {x:Flt} (h:Dx x≤1048576):SmB x.berths∧Ra x.services 1048576∧SmC x.copies∧x.services.length≤1048576∧x.berths.length≤1048576∧x.copies.length≤1048576:=by
 unfold Dx at h;have l1:=Dq (f:=Bs) (xs:=x.berths);have l2:=Dq (f:=Cq) (xs:=x.services);have l3:=Dq (f:=Bt) (xs:=x.copies);refine ⟨fun b hb=>?_,fun s hs=>?_,fun c hc=>?_,by omega,by omega,by omega⟩
 ·have h1:=dW (f:=Bs) hb
  have h2:=Dq (f:=ByteArray.size) (xs:=b.marks);have h3:Bs b=b.name.size+b.zone.size+wS ByteArray.size b.marks:=rfl;exact ⟨by omega,fun m hm=>by have:=dW (f:=ByteArray.size) hm;omega,by omega,by omega⟩
 ·have h1:=dW (f:=Cq) hs
  have h3:Cq s=s.name.size:=rfl;omega
 ·have h1:=dW (f:=Bt) hc
  have h2:=Dq (f:=Cn) (xs:=c.likes);have h4:Bt c=c.name.size+c.service.size+c.select.size+wS Cn c.likes+c.near.size+c.fixed.size+c.at_.size:=rfl;exact ⟨by omega,fun m hm=>by have h3:=dW (f:=Cn) hm;have h5:Cn m=m.select.size:=rfl;omega,by omega,by omega,by omega,by omega,by omega,by omega⟩
theorem Pd (x:Flt) (v:Evt) (b1 o1 c1:Nat) (a2:OA) (c2 b3 o3 c3:Nat) (am:OA) (cm:Nat) (al:OA) (cl lo:Nat) (w:World) (n1:SliceC BrtC 6 lo w (some ⟨b1,o1,none⟩) x.berths) (n2:SliceC SvcC 2 lo w a2 x.services) (n3:SliceC CpyC 12 lo w (some ⟨b3,o3,none⟩) x.copies) (nm:SliceC StrC 1 lo w am v.berth.marks) (nl:SliceC LikC 2 lo w al v.copy.likes) (hlo:lo≤w.heap.size) (hc1:x.berths.length≤c1) (hm1:c1≤maxLen) (hc3:x.copies.length≤c3) (hm3:c3≤maxLen) (z1:SzB [v.berth]) (z3:SzC [v.copy]) (zn:v.name.size≤maxLen) (za:v.at_.size≤maxLen)
  (l1:x.berths.length≤1048576) (l2:x.services.length≤1048576) (l3:x.copies.length≤1048576) :
  Calls Tryz.prog 9 #[.agg (ffA x (some ⟨b1,o1,none⟩) c1 a2 c2 (some ⟨b3,o3,none⟩) c3),.agg (eeA v am cm al cl)] w fun e w'=>lR x v w e w':=by
 have Z1:Hid (SzB (v.berth::x.berths)):=fun y hy=>(List.mem_cons.1 hy).elim (fun h=>z1 y (by simp [h])) (fun h=>SzB.of n1 y h)
 have Z3:Hid (SzC (v.copy::x.copies)):=fun y hy=>(List.mem_cons.1 hy).elim (fun h=>z3 y (by simp [h])) (fun h=>SzC.of n3 y h)
 have N1:=iH n1;have N2:=iH n2;have N3:=iH n3;have NM:=iH nm;have NL:=iH nl;have HC1:=iH (And.intro hc1 hm1);have HC3:=iH (And.intro hc3 hm3);have HZ:=iH (And.intro zn za);clear n1 n2 n3 nm nl z1 z3 hc1 hm1 hc3 hm3 zn za;have h1:=Blk.alloc w (ffA x (some ⟨b1,o1,none⟩) c1 a2 c2 (some ⟨b3,o3,none⟩) c3) 41;have h2:Blk (w.heap.size+1) (eeA v am cm al cl) 50 ((w.alloc (Obj.cells (ffA x (some ⟨b1,o1,none⟩) c1 a2 c2 (some ⟨b3,o3,none⟩) c3) 41)).alloc (Obj.cells (eeA v am cm al cl) 50)):=by
  have:=Blk.alloc (w.alloc (Obj.cells (ffA x (some ⟨b1,o1,none⟩) c1 a2 c2 (some ⟨b3,o3,none⟩) c3) 41)) (eeA v am cm al cl) 50;simpa using this
 have HR3:Hid (Blk (w.heap.size+1+1) zzA 41 (((w.alloc (Obj.cells (ffA x (some ⟨b1,o1,none⟩) c1 a2 c2 (some ⟨b3,o3,none⟩) c3) 41)).alloc (Obj.cells (eeA v am cm al cl) 50)).alloc (Obj.cells zzA 41))):=by
  have:=Blk.alloc ((w.alloc (Obj.cells (ffA x (some ⟨b1,o1,none⟩) c1 a2 c2 (some ⟨b3,o3,none⟩) c3) 41)).alloc (Obj.cells (eeA v am cm al cl) 50)) zzA 41;show Blk _ _ _ _
  simpa using this
 have HF3:Hid (Blk w.heap.size (ffA x (some ⟨b1,o1,none⟩) c1 a2 c2 (some ⟨b3,o3,none⟩) c3) 41 (((w.alloc (Obj.cells (ffA x (some ⟨b1,o1,none⟩) c1 a2 c2 (some ⟨b3,o3,none⟩) c3) 41)).alloc (Obj.cells (eeA v am cm al cl) 50)).alloc (Obj.cells zzA 41))):=(h1.below ((Below.refl _ _).alloc nL _) h1.lt).below ((Below.refl _ _).alloc nL _) (by simp;omega);have HE3:=iH (h2.below ((Below.refl _ _).alloc nL (Obj.cells zzA 41)) h2.lt);have hB3:Below w.heap.size w (((w.alloc (Obj.cells (ffA x (some ⟨b1,o1,none⟩) c1 a2 c2 (some ⟨b3,o3,none⟩) c3) 41)).alloc (Obj.cells (eeA v am cm al cl) 50)).alloc (Obj.cells zzA 41)):=by go_grown
 clear h1 h2;go_enter Tryz.func9,Tryz.ntmps9;go_upto_region 1 with fail;generalize (((w.alloc (Obj.cells (ffA x (some ⟨b1,o1,none⟩) c1 a2 c2 (some ⟨b3,o3,none⟩) c3) 41)).alloc (Obj.cells (eeA v am cm al cl) 50)).alloc (Obj.cells zzA 41))=w3 at *;go_wp2_with (refine lk Bw HF3 ?_);refine (Ke x (some ⟨b1,o1,none⟩) c1 a2 c2 (some ⟨b3,o3,none⟩) c3 lo _ (N1.out.below BrtC.holds hB3 nL) (N2.out.below SvcC.holds hB3 nL) (N3.out.below CpyC.holds hB3 nL) l1 l2 l3).mono ?_;rintro e w4 ⟨vv,rfl,hb4,hfd⟩;have HFD:=iH hfd;have HF4:=qb HF3 hb4;have HE4:=qb HE3 hb4;have HR4:=qb HR3 hb4;have hB4:=qt hB3 hb4;have hr4:(w.heap.size+1+1)<w4.heap.size:=HR4.out.lt;clear hfd hb4 HF3 HE3 HR3 hB3
 cases hv:Bj x with
 | false =>
  have HR:=iH (fV (e:=v) hv);clear hv HFD;have HTR:=iH HR4.out.there;obtain ⟨wz,HWZ⟩:∃ w',Hid (w'=w4.setCells (w.heap.size+1+1) 0 zzL):=⟨_,rfl⟩;have HRZ:Hid (wz.rangeAt (w.heap.size+1+1) 0 zzL):=by
   show World.rangeAt _ _ _ _
   rw [HWZ.out];exact World.rangeAt_setCells_same _ _ _ _ HTR
  have hBZ:Below w.heap.size w wz:=by
   rw [HWZ.out];exact Ac (by omega) _ _ _ hB4
  have hzz:w.heap.size<wz.heap.size:=by
   rw [HWZ.out,Bf];omega
  go_wp2_with (refine Ad rfl 41 _ _ rfl (w.heap.size+1+1) 0 zzA rfl rfl HTR Ak (by simp [Value.oneCell']) wz HWZ ?_);exact bodyPost_ret (Dg rfl _ _ (w.heap.size+1+1) zzL _ rfl HRZ Tryz.underlying41 rfl Ak) rfl ⟨_,by rw [HR.out];rfl,by rw [HR.out];exact NwRes.none hzz hBZ⟩
 | true =>
  obtain ⟨pf,m1,m2,m3,m4,rfl,hpf,hm4,hF⟩:=HFD.out hv;have HFF:=iH hF;have HV:=iH hv;clear HFD hF hv hm4 hpf;have HC5:Hid (Blk w4.heap.size (chV pf x.pack (.slice (some ⟨b1,o1,none⟩) x.berths.length c1) (.slice a2 x.services.length c2) (.slice (some ⟨b3,o3,none⟩) x.copies.length c3) v am cm al cl) 76 (w4.alloc (Obj.cells #[.pointer (some ⟨pf,0,none⟩),.bool x.pack,.slice (some ⟨b1,o1,none⟩) x.berths.length c1,.slice a2 x.services.length c2,.slice (some ⟨b3,o3,none⟩) x.copies.length c3,.int .i64 v.kind,.string v.berth.name,.string v.berth.zone,.slice am v.berth.marks.length cm,.int .i64 v.berth.room,.int .i64 v.berth.hold,.bool v.berth.closed,.string v.copy.name,.string v.copy.service,.int .i64 v.copy.rank,.int .i64 v.copy.born,.int .i64 v.copy.room,.int .i64 v.copy.hold,.string v.copy.select,.slice al v.copy.likes.length cl,.int .i64 v.copy.apart,.string v.copy.near,.string v.copy.fixed,.string v.copy.at_,.string v.name,.string v.at_] 76))):=Blk.alloc _ _ _;have hb5:=(Below.refl _ w4).alloc nL (Obj.cells #[.pointer (some ⟨pf,0,none⟩),.bool x.pack,.slice (some ⟨b1,o1,none⟩) x.berths.length c1,.slice a2 x.services.length c2,.slice (some ⟨b3,o3,none⟩) x.copies.length c3,.int .i64 v.kind,.string v.berth.name,.string v.berth.zone,.slice am v.berth.marks.length cm,.int .i64 v.berth.room,.int .i64 v.berth.hold,.bool v.berth.closed,.string v.copy.name,.string v.copy.service,.int .i64 v.copy.rank,.int .i64 v.copy.born,.int .i64 v.copy.room,.int .i64 v.copy.hold,.string v.copy.select,.slice al v.copy.likes.length cl,.int .i64 v.copy.apart,.string v.copy.near,.string v.copy.fixed,.string v.copy.at_,.string v.name,.string v.at_] 76);go_upto_region 5 with (first | (refine lk Bw HF4 ?_) | (refine lk Vt HE4 ?_));generalize w4.alloc (Obj.cells #[.pointer (some ⟨pf,0,none⟩),.bool x.pack,.slice (some ⟨b1,o1,none⟩) x.berths.length c1,.slice a2 x.services.length c2,.slice (some ⟨b3,o3,none⟩) x.copies.length c3,.int .i64 v.kind,.string v.berth.name,.string v.berth.zone,.slice am v.berth.marks.length cm,.int .i64 v.berth.room,.int .i64 v.berth.hold,.bool v.berth.closed,.string v.copy.name,.string v.copy.service,.int .i64 v.copy.rank,.int .i64 v.copy.born,.int .i64 v.copy.room,.int .i64 v.copy.hold,.string v.copy.select,.slice al v.copy.likes.length cl,.int .i64 v.copy.apart,.string v.copy.near,.string v.copy.fixed,.string v.copy.at_,.string v.name,.string v.at_] 76)=w5 at *;have HF5:=iH (HFF.out.below hb5);have HR5:=qb HR4 hb5;have hB5:=qt hB4 hb5;have hws:=hB4.size;clear HFF HF4 HE4 HR4 hB4 hb5;generalize w4.heap.size=p at *;have HPRE:Hid (AcPre x v pf p m1 m2 m3 m4 b1 o1 c1 a2 c2 b3 o3 c3 am cm al cl lo w w5):=⟨N1,N3,NM,NL,hlo,HC1.out.1,HC1.out.2,HC3.out.1,HC3.out.2,Z1,Z3,HZ.out.1,HZ.out.2,HV,hB5,hws,HC5,HF5⟩;go_wp2_with fail;refine (Vf x v pf p m1 m2 m3 m4 b1 o1 c1 a2 c2 b3 o3 c3 am cm al cl lo w _ HPRE N2).mono ?_;intro e w6 hres
  rcases hres with ⟨code,hc0,hR,rfl,hb6⟩ | ⟨y,d1,q1,d3,q3,hR,hvy,rfl,hpk,hsv,hbk,hs1,hs3,hb6⟩
  ·have HR:=iH hR
   have HR6:=iH (HR5.out.below hb6 hr4);have hB6:=hB5.trans (hb6.mono hws);have hc1:(code == 0)=false:=by simpa using hc0
   have hc2:decide (code=0)=false:=by simpa using hc0
   have hr6:(w.heap.size+1+1)<w6.heap.size:=HR6.out.lt;clear hR hb6 HR5 hB5 HPRE HC5 HF5;have HTR:=iH HR6.out.there;obtain ⟨wz,HWZ⟩:∃ w',Hid (w'=w6.setCells (w.heap.size+1+1) 0 zzL):=⟨_,rfl⟩;have HRZ:Hid (wz.rangeAt (w.heap.size+1+1) 0 zzL):=by
    show World.rangeAt _ _ _ _
    rw [HWZ.out];exact World.rangeAt_setCells_same _ _ _ _ HTR
   have hBZ:Below w.heap.size w wz:=by
    rw [HWZ.out];exact Ac (by omega) _ _ _ hB6
   have hzz:w.heap.size<wz.heap.size:=by
    rw [HWZ.out,Bf];omega
   go_wp2_with (refine Ad rfl 41 _ _ rfl (w.heap.size+1+1) 0 zzA rfl rfl HTR Ak (by simp [Value.oneCell']) wz HWZ ?_);exact bodyPost_ret (Dg rfl _ _ (w.heap.size+1+1) zzL _ rfl HRZ Tryz.underlying41 rfl Ak) rfl ⟨_,by rw [HR.out];rfl,by rw [HR.out];exact NwRes.none hzz hBZ⟩
  ·have HR:=iH hR
   have HR6:=iH (HR5.out.below hb6 hr4);have hB6:=hB5.trans (hb6.mono hws);have HBK:=iH hbk;have SM:=iH (Wm (It hvy));have hr6:(w.heap.size+1+1)<w6.heap.size:=HR6.out.lt;have HS2:SliceC SvcC 2 lo w6 a2 y.services:=by
    rw [hsv];exact N2.out.below SvcC.holds hB6 nL
   have CT:=iH (Th y d1 q1 a2 c2 d3 q3 lo w6 hs1 HS2 hs3 SM.out.2.2.2.1 SM.out.2.2.2.2.1 SM.out.2.2.2.2.2 SM.out.1 SM.out.2.1 SM.out.2.2.1);unfold ffA at CT;rw [hpk,hsv] at CT;clear hR hbk hs1 hs3 HS2 hb6 HR5 hB5 HPRE HC5 HF5 hvy hpk hsv;go_wp2_with (refine wpList_load_mid rfl 41 _ rfl p 1 rfl (fgL x.pack d1 y.berths.length q1 a2 x.services.length c2 d3 y.copies.length q3) _ (chF HBK) Tryz.underlying41 rfl Ak ?_);refine CT.out.mono ?_;intro e w7 hN;obtain ⟨u0,u1,u2,u3,rfl⟩:=jD hN;have HR7:=iH (HR6.out.below (fU hN) HR6.out.lt);have HTR:=iH HR7.out.there;obtain ⟨wz,HWZ⟩:∃ w',Hid (w'=w7.setCells (w.heap.size+1+1) 0 [u0,u1,u2,u3]):=⟨_,rfl⟩;have HRZ:Hid (wz.rangeAt (w.heap.size+1+1) 0 [u0,u1,u2,u3]):=by
    show World.rangeAt _ _ _ _
    rw [HWZ.out];exact World.rangeAt_setCells_same _ _ _ _ HTR
   have HNZ:Hid (NwRes y w (.returned (.agg #[u0,u1,u2,u3])) wz):=by
    show NwRes _ _ _ _
    rw [HWZ.out];exact hN.stored hB6 (by omega) hr6 _
   have h1c:#[u0,u1,u2,u3].all (·.oneCell')=true:=kN hN;clear hN CT HR6 HBK;go_wp2_with (refine Ad rfl 41 _ _ rfl (w.heap.size+1+1) 0 #[u0,u1,u2,u3] rfl rfl HTR Ak h1c wz HWZ ?_);exact bodyPost_ret (Dg rfl _ _ (w.heap.size+1+1) [u0,u1,u2,u3] _ rfl HRZ Tryz.underlying41 rfl Ak) rfl ⟨_,by rw [HR.out];rfl,by rw [HR.out];exact HNZ.out⟩
end Go.Proofs.YtihnjndnkgnmaaaGreat
