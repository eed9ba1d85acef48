import Derived.Test.YtpeajnkkdioflaaGreatEnt
set_option maxHeartbeats 8000000
set_option maxRecDepth 100000
namespace Go.Proofs.YtpeajnkkdioflaaGreat
open Go.RowKit Go.WideMaps Go.Maps
theorem Iv {P:Program} (t:TypeId) (w:World):(Instr.makeMap t none).run P w=.ok (.map (some w.heap.size)) (w.alloc (.map #[] 0)):=rfl
theorem Jw {P:Program} {op:Oper} {a:Act} {w w':World} {K:Act→World→Prop} {Q:Exit→Act→World→Prop} (m x v:Operand) (t:TypeId) (hop:op.op=Op.mapUpdate t m x v) (b:Nat) (key val:Value)
  (hm:a.eval m=.map (some b)) (hx:a.eval x=key) (hv:a.eval v=val) (hrun:(Instr.mapUpdate t (.map (some b)) key val).run P w=.ok () w') (hK:K (a.put op.dst undef) w'):op.wp P a w K Q:=by
 unfold Oper.wp;simp [execOp,hop,hm,hx,hv,hrun,Result.andThen];exact hK
def Lg.ext (G:Lg) (k:Nat) (z:ByteArray) (lb tb zb:Nat):Lg :=
 { G with L:=fun i=>if i=k then lb else G.L i,T:=fun i=>if i=k then tb else G.T i,Z:=fun s=>if s=z then zb else G.Z s,tag:=fun g=>if g=lb then (.inr (.inl k)) else if g=tb then (.inr (.inr (.inl k))) else if g=zb then (.inr (.inr (.inr z))) else G.tag g }
theorem LgI.berth {x:Flt} {lo:Nat} {W0:World} {G:Lg} {kb k:Nat} {w w':World} {b:Brt} (h:LgI x lo W0 G kb k 0 w) (hv:VOk x) (hb:x.berths[k]?=some b) {am:Option Addr} {cm lb tb zb n1 n2:Nat} {f1 f2:ByteArray→Option Value}
  (hL:Blk lb (lnV b am cm (0,0,0) tb) 111 w') (hsl:SliceC StrC 1 lo W0 am b.marks) (hT:MapV w' (vCn Dm) tb 0 (fun _=>none)) (hZ:MapV w' (vCn Dm) zb 0 (fun _=>none))
  (o1:w.heap.size≤lb) (o2:w.heap.size≤tb) (o3:w.heap.size≤zb) (d1:lb≠tb) (d2:lb≠zb) (d3:tb≠zb) (a1:n1≤kb) (a3:∀ (i:Nat) (b:Brt),i<k→x.berths[i]?=some b→f1 b.name=some (.pointer (some ⟨G.L i,0,none⟩))) (a4:∀ s,(f1 s).isSome=true→∃ (i:Nat) (b:Brt),i<k∧x.berths[i]?=some b∧b.name=s)
  (b1:n2≤kb) (b3:∀ z,z∈Ah x.berths k→f2 z=some (.map (some (G.Z z)))) (b4:∀ s,(f2 s).isSome=true→s∈Ah x.berths k)
  (hML:MapV w' (.pointer none) G.ml (n1+1) (Mc f1 b.name (.pointer (some ⟨lb,0,none⟩)))) (hMZ:MapV w' (.map none) G.mz (n2+1) (Mc f2 b.zone (.map (some zb))))
  (hS:Sv [G.ml,G.mz] w w') (hB:Below W0.heap.size W0 w'):LgI x lo W0 (G.ext k b.zone lb tb zb) (kb+1) (k+1) 0 w':=by
 have o:=h.ok;have hWw:=h.hB.size;have tg:∀ {u v:Nat} {s t:Tg},G.tag u=s→G.tag v=t→s≠t→u≠v:=fun h1 h2 h3 e=>h3 (by rw [← h1,← h2,e])
 have nin:∀ {u:Nat} {s:Tg},G.tag u=s→s≠(.inl 1)→s≠(.inl 2)→u∉[G.ml,G.mz]:=fun h1 q1 q2 hm=>by
  simp only [List.mem_cons,List.not_mem_nil,or_false] at hm;rcases hm with e | e
  ·exact tg h1 o.tml.1 q1 e
  ·exact tg h1 o.tmz.1 q2 e
 have tO:∀ {u:Nat},u<w.heap.size→(G.ext k b.zone lb tb zb).tag u=G.tag u:=fun {u} hu=>by
  show (if u=lb then _ else if u=tb then _ else if u=zb then _ else G.tag u)=_
  rw [if_neg (by omega),if_neg (by omega),if_neg (by omega)]
 have eL:∀ i,i≠k→(G.ext k b.zone lb tb zb).L i=G.L i:=fun i hi=>if_neg hi
 have eT:∀ i,i≠k→(G.ext k b.zone lb tb zb).T i=G.T i:=fun i hi=>if_neg hi
 have eZ:∀ z,z≠b.zone→(G.ext k b.zone lb tb zb).Z z=G.Z z:=fun z hz=>if_neg hz
 have eLk:(G.ext k b.zone lb tb zb).L k=lb:=if_pos rfl;have eTk:(G.ext k b.zone lb tb zb).T k=tb:=if_pos rfl;have eZk:(G.ext k b.zone lb tb zb).Z b.zone=zb:=if_pos rfl;have tl:(G.ext k b.zone lb tb zb).tag lb=(.inr (.inl k)):=if_pos rfl;have tt:(G.ext k b.zone lb tb zb).tag tb=(.inr (.inr (.inl k))):=(if_neg d1.symm).trans (if_pos rfl);have tz:(G.ext k b.zone lb tb zb).tag zb=(.inr (.inr (.inr b.zone))):=(if_neg d2.symm).trans ((if_neg d3.symm).trans (if_pos rfl));have hzs:∀ z,z∈Ah x.berths (k+1)→z≠b.zone→z∈Ah x.berths k:=fun z hz hn=>by
  rw [Jp hb,Gi (Gf _ _)] at hz;rcases hz with e | ⟨hz,_⟩
  ·exact absurd e hn
  ·exact hz
 obtain ⟨nM,hM1,hM2⟩:=h.MT;refine ⟨⟨⟨(tO h.P.lt).trans o.tp.1,o.tp.2⟩,⟨?_,o.tml.2⟩,⟨?_,o.tmz.2⟩,⟨(tO hM2.lt).trans o.tmt.1,o.tmt.2⟩,fun i hi=>?_,fun i hi=>?_,fun z hz=>?_⟩,h.P.sv hS (nin o.tp.1 (by simp) (by simp)),⟨n1+1,_,by omega,hML,fun i d hi hd=>?_,fun s hs=>?_⟩,⟨n2+1,_,by omega,hMZ,fun z hz=>?_,fun s hs=>?_⟩,⟨nM,by omega,hM2.sv hS (nin o.tmt.1 (by simp) (by simp))⟩,fun i d hi hd=>?_,fun i d hi hd=>?_,fun z hz=>?_,hB⟩
 ·obtain ⟨_,_,_,g2,_⟩:=h.ML
  exact (tO g2.lt).trans o.tml.1
 ·obtain ⟨_,_,_,g2,_⟩:=h.MZ
  exact (tO g2.lt).trans o.tmz.1
 ·by_cases e:i=k
  ·subst e;rw [eLk];exact ⟨tl,by omega⟩
  ·obtain ⟨d,hd⟩:∃ d,x.berths[i]?=some d:=⟨x.berths[i]'(by have:=Ad hb;omega),List.getElem?_eq_getElem _⟩
   obtain ⟨_,_,g1,_⟩:=h.LN i d (by omega) hd;rw [eL i e];exact ⟨(tO g1.lt).trans (o.tL i (by omega)).1,(o.tL i (by omega)).2⟩
 ·by_cases e:i=k
  ·subst e;rw [eTk];exact ⟨tt,by omega⟩
  ·obtain ⟨d,hd⟩:∃ d,x.berths[i]?=some d:=⟨x.berths[i]'(by have:=Ad hb;omega),List.getElem?_eq_getElem _⟩
   rw [eT i e];exact ⟨(tO (h.TL i d (by omega) hd).lt).trans (o.tT i (by omega)).1,(o.tT i (by omega)).2⟩
 ·by_cases e:z=b.zone
  ·subst e;rw [eZk];exact ⟨tz,by omega⟩
  ·have hz2:=hzs z hz e
   rw [eZ z e];exact ⟨(tO (h.TZ z hz2).lt).trans (o.tZ z hz2).1,(o.tZ z hz2).2⟩
 ·by_cases e:i=k
  ·subst e
   rw [hb] at hd;cases hd
   rw [eLk];exact if_pos rfl
  ·rw [eL i e]
   have hne:d.name≠b.name:=fun e2=>e (hv.asc.inj (Fv (f:=(·.name)) hd) (show _=some d.name by rw [e2];exact Fv (f:=(·.name)) hb))
   exact (if_neg hne).trans (a3 i d (by omega) hd)
 ·by_cases e:s=b.name
  ·exact ⟨k,b,by omega,hb,e.symm⟩
  ·have:Mc f1 b.name (.pointer (some ⟨lb,0,none⟩)) s=f1 s:=if_neg e
   rw [this] at hs;obtain ⟨i,d,h1,h2,h3⟩:=a4 s hs;exact ⟨i,d,by omega,h2,h3⟩
 ·by_cases e:z=b.zone
  ·subst e;rw [eZk];exact if_pos rfl
  ·rw [eZ z e];exact (if_neg e).trans (b3 z (hzs z hz e))
 ·rw [Jp hb,Gi (Gf _ _)]
  by_cases e:s=b.zone
  ·exact .inl e
  ·have:Mc f2 b.zone (.map (some zb)) s=f2 s:=if_neg e
   rw [this] at hs;exact .inr ⟨b4 s hs,e⟩
 ·by_cases e:i=k
  ·subst e
   rw [hb] at hd;cases hd
   rw [eLk,eTk];exact ⟨am,cm,hL,hsl⟩
  ·rw [eL i e,eT i e]
   obtain ⟨am',cm',g1,g2⟩:=h.LN i d (by omega) hd;exact ⟨am',cm',g1.sv hS (nin (o.tL i (by omega)).1 (by simp) (by simp)),g2⟩
 ·by_cases e:i=k
  ·subst e
   rw [eTk];exact ⟨0,Nat.zero_le _,hT⟩
  ·rw [eT i e]
   exact ((h.TL i d (by omega) hd).more (Nat.le_succ _)).heap (fun g eg hg=>hS.2 g hg (eg▸nin (o.tT i (by omega)).1 (by simp) (by simp)))
 ·by_cases e:z=b.zone
  ·subst e
   rw [eZk];exact ⟨0,Nat.zero_le _,hZ⟩
  ·have hz2:=hzs z hz e
   rw [eZ z e];exact ((h.TZ z hz2).more (Nat.le_succ _)).heap (fun g eg hg=>hS.2 g hg (eg▸nin (o.tZ z hz2).1 (by simp) (by simp)))
theorem LgI.none (x:Flt) (lo:Nat) {W0 w:World} {p ml mz mt:Nat} (hP:Blk p #[.bool x.pack,.map (some ml),.map (some mz),.map (some mt)] 108 w) (h1:MapV w (.pointer none) ml 0 (fun _=>none)) (h2:MapV w (.map none) mz 0 (fun _=>none)) (h3:MapV w (vCn Dm) mt 0 (fun _=>none))
  (o1:W0.heap.size≤ml) (o2:ml<mz) (o3:mz<mt) (o4:mt<p) (hB:Below W0.heap.size W0 w):LgI x lo W0 ⟨p,ml,mz,mt,fun _=>0,fun _=>0,fun _=>0,fun g=>if g=p then (.inl 0) else if g=ml then (.inl 1) else if g=mz then (.inl 2) else (.inl 3)⟩ 0 0 0 w:=by
 refine ⟨⟨⟨if_pos rfl,by show W0.heap.size≤p;omega⟩,⟨?_,o1⟩,⟨?_,by show W0.heap.size≤mz;omega⟩,⟨?_,by show W0.heap.size≤mt;omega⟩,fun i hi=>absurd hi (Nat.not_lt_zero _),fun i hi=>absurd hi (Nat.not_lt_zero _),(fun z hz=>by cases hz)⟩,hP,⟨0,_,Nat.le_refl _,h1,fun i _ hi=>absurd hi (Nat.not_lt_zero _),(fun s hs=>by cases hs)⟩,⟨0,_,Nat.le_refl _,h2,(fun z hz=>by cases hz),(fun s hs=>by cases hs)⟩,⟨0,Nat.le_refl _,h3⟩,fun i _ hi=>absurd hi (Nat.not_lt_zero _),fun i _ hi=>absurd hi (Nat.not_lt_zero _),(fun z hz=>by cases hz),hB⟩
 ·show (if ml=p then (.inl 0:Tg) else if ml=ml then (.inl 1:Tg) else if ml=mz then (.inl 2:Tg) else (.inl 3:Tg))=(.inl 1:Tg)
  rw [if_neg (by omega),if_pos rfl]
 ·show (if mz=p then (.inl 0:Tg) else if mz=ml then (.inl 1:Tg) else if mz=mz then (.inl 2:Tg) else (.inl 3:Tg))=(.inl 2:Tg)
  rw [if_neg (by omega),if_neg (by omega),if_pos rfl]
 ·show (if mt=p then (.inl 0:Tg) else if mt=ml then (.inl 1:Tg) else if mt=mz then (.inl 2:Tg) else (.inl 3:Tg))=(.inl 3:Tg)
  rw [if_neg (by omega),if_neg (by omega),if_neg (by omega)]
theorem Zs {lo:Nat} {w:World} {b o:Nat} {y:Brt} (h:BrtC lo w (fun i=>w.cell? ⟨b,o+i,none⟩) y):∃ (am:Option Addr) (cm:Nat),w.rangeAt b o [.string y.name,.string y.zone,.slice am y.marks.length cm,.int .i64 y.room,.int .i64 y.hold,.bool y.closed]∧SliceC StrC 1 lo w am y.marks:=by
 obtain ⟨am,cm,q0,q1,q2,q3,q4,q5,_,_,hs⟩:=h;exact ⟨am,cm,Aa q0 (Aa q1 (Aa q2 (Aa q3 (Aa q4 (Aa q5 (Aj _ _ _)))))),hs⟩
theorem Nn {lo:Nat} {w:World} {b o:Nat} {y:Cpy} (h:CpyC lo w (fun i=>w.cell? ⟨b,o+i,none⟩) y):∃ (am:Option Addr) (cm:Nat),w.rangeAt b o [.string y.name,.string y.service,.int .i64 y.rank,.int .i64 y.born,.int .i64 y.room,.int .i64 y.hold,.string y.select,.slice am y.likes.length cm,.int .i64 y.apart,.string y.near,.string y.fixed,.string y.at_]∧SliceC LikC 2 lo w am y.likes:=by
 obtain ⟨am,cm,q0,q1,q2,q3,q4,q5,q6,q7,q8,q9,q10,q11,_,_,_,_,_,_,hs⟩:=h;exact ⟨am,cm,Aa q0 (Aa q1 (Aa q2 (Aa q3 (Aa q4 (Aa q5 (Aa q6 (Aa q7 (Aa q8 (Aa q9 (Aa q10 (Aa q11 (Aj _ _ _)))))))))))),hs⟩
theorem aY {w w':World} {g o B:Nat} {l:List Value} (h:w.rangeAt g o l) (hb:Below B w w') (hB:g<B):w'.rangeAt g o l:=by
 intro j v hj;rw [hb.cell (p:=⟨g,o+j,none⟩) hB];exact h j v hj
theorem Xd (x:Flt) (a1:Option Addr) (c1:Nat) (a2:Option Addr) (c2:Nat) (a3:Option Addr) (c3:Nat) (lo:Nat) (w:World) (n1:SliceC BrtC 6 lo w a1 x.berths) (n3:SliceC CpyC 12 lo w a3 x.copies) (hv:VOk x) :
  Calls Tryz.prog 22 #[.agg #[.bool x.pack,.slice a1 x.berths.length c1,.slice a2 x.services.length c2,.slice a3 x.copies.length c3]] w fun e w'=>∃ (G:Lg) (wa:World),e=.returned (.pointer (some ⟨G.p,0,none⟩))∧Below w.heap.size w wa∧LgI x lo wa G 72 x.berths.length x.copies.length w':=by
 have HN1:=iH n1;have HN3:=iH n3;have HV:=iH hv;have hnb:=hv.nb;have hnc:=hv.nc;clear n1 n3 hv;have hb1:Below w.heap.size w (w.alloc (Obj.cells #[.bool x.pack,.slice a1 x.berths.length c1,.slice a2 x.services.length c2,.slice a3 x.copies.length c3] 38)):=(Below.refl _ _).alloc nL _;have HFx:=iH (Blk.alloc w #[.bool x.pack,.slice a1 x.berths.length c1,.slice a2 x.services.length c2,.slice a3 x.copies.length c3] 38);have hsz:(w.alloc (Obj.cells #[.bool x.pack,.slice a1 x.berths.length c1,.slice a2 x.services.length c2,.slice a3 x.copies.length c3] 38)).heap.size=w.heap.size+1:=by simp
 have hm1:∀ w,(Instr.makeMap 103 none).run Tryz.prog w=.ok (.map (some w.heap.size)) (w.alloc (.map #[] 0)):=fun w=>Iv _ w
 have hm2:∀ w,(Instr.makeMap 104 none).run Tryz.prog w=.ok (.map (some w.heap.size)) (w.alloc (.map #[] 0)):=fun w=>Iv _ w
 have hm3:∀ w,(Instr.makeMap 106 none).run Tryz.prog w=.ok (.map (some w.heap.size)) (w.alloc (.map #[] 0)):=fun w=>Iv _ w
 go_enter Tryz.func22,Tryz.ntmps22;go_upto_region 1 with fail;generalize (w.alloc (Obj.cells #[.bool x.pack,.slice a1 x.berths.length c1,.slice a2 x.services.length c2,.slice a3 x.copies.length c3] 38))=wa at *;have hk0:wa.cell? ⟨w.heap.size,0,none⟩=some (.bool x.pack):=HFx.out.cell rfl;have hu1:(wa.alloc (.map #[] 0)).heap.size=w.heap.size+1+1:=by simp [hsz]
 have hu2:((wa.alloc (.map #[] 0)).alloc (.map #[] 0)).heap.size=w.heap.size+1+1+1:=by simp [hsz]
 have hu3:(((wa.alloc (.map #[] 0)).alloc (.map #[] 0)).alloc (.map #[] 0)).heap.size=w.heap.size+1+1+1+1:=by simp [hsz]
 have M1:=MapV.made wa (.pointer none);have M2:=MapV.made (wa.alloc (.map #[] 0)) (.map none);have M3:=MapV.made ((wa.alloc (.map #[] 0)).alloc (.map #[] 0)) (vCn Dm);rw [hsz] at M1;rw [hu1] at M2;rw [hu2] at M3;have al:∀ (v:World) (ob:Obj),Below v.heap.size v (v.alloc ob):=fun v ob=>(Below.refl _ _).alloc nL _
 have HP4:=Blk.alloc (((wa.alloc (.map #[] 0)).alloc (.map #[] 0)).alloc (.map #[] 0)) #[.bool x.pack,.map (some (w.heap.size+1)),.map (some (w.heap.size+1+1)),.map (some (w.heap.size+1+1+1))] 108;rw [hu3] at HP4;have HM1:=iH (((M1.below (al _ (.map #[] 0))).below (al _ (.map #[] 0))).below (al _ (Obj.cells #[.bool x.pack,.map (some (w.heap.size+1)),.map (some (w.heap.size+1+1)),.map (some (w.heap.size+1+1+1))] 108)));have HM2:=iH ((M2.below (al _ (.map #[] 0))).below (al _ (Obj.cells #[.bool x.pack,.map (some (w.heap.size+1)),.map (some (w.heap.size+1+1)),.map (some (w.heap.size+1+1+1))] 108)));have HM3:=iH (M3.below (al _ (Obj.cells #[.bool x.pack,.map (some (w.heap.size+1)),.map (some (w.heap.size+1+1)),.map (some (w.heap.size+1+1+1))] 108)));replace HP4:=iH HP4;have hb4:Below wa.heap.size wa ((((wa.alloc (.map #[] 0)).alloc (.map #[] 0)).alloc (.map #[] 0)).alloc (Obj.cells #[.bool x.pack,.map (some (w.heap.size+1)),.map (some (w.heap.size+1+1)),.map (some (w.heap.size+1+1+1))] 108)):=((((Below.refl _ wa).alloc nL _).alloc (by omega) _).alloc (by omega) _).alloc (by omega) _;have HF4:=iH ((((HFx.out.below (al _ (.map #[] 0)) HFx.out.lt).below (al _ (.map #[] 0)) (by omega)).below (al _ (.map #[] 0)) (by omega)).below (al _ (Obj.cells #[.bool x.pack,.map (some (w.heap.size+1)),.map (some (w.heap.size+1+1)),.map (some (w.heap.size+1+1+1))] 108)) (by omega));go_upto_region 2 with fail;clear hk0 hm1 hm2 hm3 HFx M1 M2 M3 al;generalize (((wa.alloc (.map #[] 0)).alloc (.map #[] 0)).alloc (.map #[] 0)).alloc (Obj.cells #[.bool x.pack,.map (some (w.heap.size+1)),.map (some (w.heap.size+1+1)),.map (some (w.heap.size+1+1+1))] 108)=wb at *;clear hu1 hu2 hu3;obtain ⟨p0,hp0⟩:∃ p0,p0=w.heap.size+1+1+1+1:=⟨_,rfl⟩;rw [← hp0] at HP4 ⊢;have HI0:=iH (LgI.none x lo (W0:=wa) HP4.out HM1.out HM2.out HM3.out (by omega) (by omega) (by omega) (by omega) hb4);have hp1:w.heap.size<p0:=by omega
 have hwa:w.heap.size<wa.heap.size:=by omega
 clear hp0 hsz HM1 HM2 HM3 HP4;have kb1:wb.cell? ⟨w.heap.size,1,none⟩=some (.slice a1 x.berths.length c1):=HF4.out.cell rfl;go_upto_region 3 with fail;clear kb1;go_loopw [19] (fun v wr=>∃ (k:Nat) (G:Lg),k≤x.berths.length∧v=.int .i64 (k:Int)∧Hid (G.p=p0)∧Hid (LgI x lo wa G k k 0 wr)∧Hid (Blk w.heap.size #[.bool x.pack,.slice a1 x.berths.length c1,.slice a2 x.services.length c2,.slice a3 x.copies.length c3] 38 wr)) (fun v _=>x.berths.length - (intOf v).toNat)
 case atStart=>exact ⟨0,_,Nat.zero_le _,rfl,iH rfl,HI0,HF4⟩
 case round =>
  clear HI0 HF4 hb4;obtain ⟨k,G,hk,rfl,HGP,HI,HF⟩:=hrel;by_cases hlt:k<x.berths.length
  case neg =>
   have hke:k=x.berths.length:=by omega
   subst hke;have kb3:wr.cell? ⟨w.heap.size,3,none⟩=some (.slice a3 x.copies.length c3):=HF.out.cell rfl;go_upto_region 10 with fail;clear kb3 hlt hk;go_loopw [50] (fun v wr=>∃ c:Nat,c≤x.copies.length∧v=.int .i64 (c:Int)∧Hid (LgI x lo wa G (x.berths.length+c) x.berths.length c wr)) (fun v _=>x.copies.length - (intOf v).toNat)
   case atStart=>exact ⟨0,Nat.zero_le _,rfl,HI⟩
   case round =>
    clear HI HF;obtain ⟨c,hc,rfl,HI⟩:=hrel;by_cases hlt:c<x.copies.length
    case neg =>
     have hce:c=x.copies.length:=by omega
     subst hce;go_wp2_with fail;go_ret;exact ⟨G,wa,(by rw [HGP.out];rfl),hb1,HI.out.more (by omega)⟩
    obtain ⟨y,hy⟩:∃ y,x.copies[c]?=some y:=⟨x.copies[c],List.getElem?_eq_getElem hlt⟩;obtain ⟨bb,ob,rfl,_,hbl,hcc⟩:=HN3.out.at hy;obtain ⟨ae,ce,hra,_⟩:=Nn hcc;have HRA:=iH (aY hra (hb1.trans (HI.out.hB.mono hb1.size)) hbl);have HYY:=iH hy;have hca:=iH (HV.out.ca c y hy);clear hy hcc hra;have HQ:=iH (Blk.alloc wr #[.string y.name,.string y.service,.int .i64 y.rank,.int .i64 y.born,.int .i64 y.room,.int .i64 y.hold,.string y.select,.slice ae y.likes.length ce,.int .i64 y.apart,.string y.near,.string y.fixed,.string y.at_] 83);have hbx:Below wr.heap.size wr (wr.alloc (Obj.cells #[.string y.name,.string y.service,.int .i64 y.rank,.int .i64 y.born,.int .i64 y.room,.int .i64 y.hold,.string y.select,.slice ae y.likes.length ce,.int .i64 y.apart,.string y.near,.string y.fixed,.string y.at_] 83)):=(Below.refl _ _).alloc nL _;go_upto_region 12 with (refine wpList_load_mid rfl 83 _ rfl bb (ob+c*12) (by first | rfl | (simp [go_sem];done)) [.string y.name,.string y.service,.int .i64 y.rank,.int .i64 y.born,.int .i64 y.room,.int .i64 y.hold,.string y.select,.slice ae y.likes.length ce,.int .i64 y.apart,.string y.near,.string y.fixed,.string y.at_] _ HRA.out Tryz.underlying83 rfl Ca ?_);clear HRA;have HI1:=iH (HI.out.below hbx);clear HI hbx;generalize wr.alloc (Obj.cells #[.string y.name,.string y.service,.int .i64 y.rank,.int .i64 y.born,.int .i64 y.room,.int .i64 y.hold,.string y.select,.slice ae y.likes.length ce,.int .i64 y.apart,.string y.near,.string y.fixed,.string y.at_] 83)=w1 at *;generalize wr.heap.size=q8 at *;have ka:w1.cell? ⟨q8,11,none⟩=some (.string y.at_):=HQ.out.cell rfl;by_cases hat:y.at_=⟨#[]⟩
    case pos =>
     have e1:=Fz hat;have HI2:=iH (HI1.out.pass HV.out HYY.out hat);clear hat;go_wp2_with fail;go_roundw
     case rel=>exact ⟨c+1,by omega,by go_num,iH (HI2.out.more (by omega))⟩
     case measure=>simp [intOf];omega
    have e1:=Dy hat;obtain ⟨i,b,hb,ha⟩:∃ (i:Nat) (b:Brt),x.berths[i]?=some b∧b.name=y.at_:=by rcases hca.out with h9 | h9;exact absurd h9 hat;exact h9
    have HBB:=iH hb;have HAA:=iH ha;have e2:y.at_.toList.isEmpty=false:=by cases h9:y.at_.toList with | nil=>exact absurd h9 e1 | cons a t=>rfl
    clear hat hb ha;go_upto_region 13 with fail;clear ka e1 e2;go_wp2_with (refine wpList_load_mid rfl 83 _ rfl q8 0 rfl [.string y.name,.string y.service,.int .i64 y.rank,.int .i64 y.born,.int .i64 y.room,.int .i64 y.hold,.string y.select,.slice ae y.likes.length ce,.int .i64 y.apart,.string y.near,.string y.fixed,.string y.at_] _ HQ.out.rangeA Tryz.underlying83 rfl Ca ?_);have ct:=aL x lo wa G (x.berths.length+c) c i w1 y b ae ce HI1.out (by omega) HV.out HYY.out HBB.out HAA.out;rw [HGP.out] at ct;refine ct.mono ?_;clear ct;rintro e w2 ⟨rfl,hI2⟩;have HI2:=iH hI2;clear hI2 HI1 HQ;go_wp2_with fail;go_roundw
    case rel=>exact ⟨c+1,by omega,by go_num,HI2⟩
    case measure=>simp [intOf];omega
  obtain ⟨b,hb⟩:∃ b,x.berths[k]?=some b:=⟨x.berths[k],List.getElem?_eq_getElem hlt⟩;obtain ⟨bb,ob,rfl,_,hbl,hc⟩:=HN1.out.at hb;obtain ⟨am,cm,hra,hsl⟩:=Zs hc;have HRA:=iH (aY hra (hb1.trans (HI.out.hB.mono hb1.size)) hbl);have HSL:=iH (hsl.below StrC.holds hb1 nL);have HBB:=iH hb;have hbn:=HV.out.bn k b hb;clear hb hc hra hsl;have HQ:=iH (Blk.alloc wr #[.string b.name,.string b.zone,.slice am b.marks.length cm,.int .i64 b.room,.int .i64 b.hold,.bool b.closed] 86);have hbx:Below wr.heap.size wr (wr.alloc (Obj.cells #[.string b.name,.string b.zone,.slice am b.marks.length cm,.int .i64 b.room,.int .i64 b.hold,.bool b.closed] 86)):=(Below.refl _ _).alloc nL _;go_upto_region 5 with (refine wpList_load_mid rfl 86 _ rfl bb (ob+k*6) (by first | rfl | (simp [go_sem];done)) [.string b.name,.string b.zone,.slice am b.marks.length cm,.int .i64 b.room,.int .i64 b.hold,.bool b.closed] _ HRA.out Tryz.underlying86 rfl Bn ?_);clear HRA;generalize wr.alloc (Obj.cells #[.string b.name,.string b.zone,.slice am b.marks.length cm,.int .i64 b.room,.int .i64 b.hold,.bool b.closed] 86)=w1 at *;generalize hq5:wr.heap.size=q5 at *;have kc3:w1.cell? ⟨q5,3,none⟩=some (.int .i64 b.room):=HQ.out.cell rfl;have kc4:w1.cell? ⟨q5,4,none⟩=some (.int .i64 b.hold):=HQ.out.cell rfl;have HR6:=iH (Blk.alloc w1 #[.string b.name,.string b.zone,.slice am b.marks.length cm,.int .i64 b.room,.int .i64 b.hold,.bool b.closed,.int .i64 b.room,.int .i64 b.hold,.int .i64 0,.slice none 0 0] 92);have hby:Below w1.heap.size w1 (w1.alloc (Obj.cells #[.string b.name,.string b.zone,.slice am b.marks.length cm,.int .i64 b.room,.int .i64 b.hold,.bool b.closed,.int .i64 b.room,.int .i64 b.hold,.int .i64 0,.slice none 0 0] 92)):=(Below.refl _ _).alloc nL _;go_upto_region 6 with (refine wpList_load_mid rfl 86 _ rfl q5 0 rfl [.string b.name,.string b.zone,.slice am b.marks.length cm,.int .i64 b.room,.int .i64 b.hold,.bool b.closed] _ HQ.out.rangeA Tryz.underlying86 rfl Bn ?_);have HI2:=iH ((HI.out.below (by rw [hq5];exact hbx)).below hby);have HQ2:=iH (HQ.out.below hby HQ.out.lt);have HF2:=iH ((HF.out.below (by rw [hq5];exact hbx) HF.out.lt).below hby (by have:=HF.out.lt;have:=hbx.size;omega));have hwq:wa.heap.size≤q5:=by rw [← hq5];exact HI.out.hB.size
  have hq56:q5<w1.heap.size:=HQ.out.lt;have hS2:Sv [G.ml,G.mz] wr (w1.alloc (Obj.cells #[.string b.name,.string b.zone,.slice am b.marks.length cm,.int .i64 b.room,.int .i64 b.hold,.bool b.closed,.int .i64 b.room,.int .i64 b.hold,.int .i64 0,.slice none 0 0] 92)):=((Sv.refl _ _).below (by rw [hq5];exact hbx)).below hby;clear kc3 kc4 hbx hby HQ HF;generalize w1.alloc (Obj.cells #[.string b.name,.string b.zone,.slice am b.marks.length cm,.int .i64 b.room,.int .i64 b.hold,.bool b.closed,.int .i64 b.room,.int .i64 b.hold,.int .i64 0,.slice none 0 0] 92)=w2 at *;generalize w1.heap.size=q6 at *;have HId:=iH HI2.out.drew;have HQd:=iH HQ2.out.drew;have HRd:=iH HR6.out.drew;have HFd:=iH HF2.out.drew;have hSd:=hS2.drew;refine Bi (S:=fun wy=>Below w2.drew.heap.size w2.drew wy) 10 (by kernel_rfl) (Below.refl _ _) (fun hS=>?_);clear HI2 HQ2 HR6 HF2 hS2;generalize w2.drew=wd at *;have HP:Hid (Blk p0 #[.bool x.pack,.map (some G.ml),.map (some G.mz),.map (some G.mt)] 108 wd):=by have h9:=HId.out.P;rw [HGP.out] at h9;exact h9
  refine tv 0 ⟨some 29,_,_,_,_,none⟩ (.pointer (some ⟨p0,0,none⟩)) rfl (by rfl) ?_ hS ?_
  ·intro wy hy
   clear hy;go_simp
  simp only [pA,pB,pC,pD];refine tv 1 ⟨some 30,_,_,_,_,none⟩ (.pointer (some ⟨p0,0,none⟩)) rfl (by rfl) ?_ hS ?_
  ·intro wy hy
   clear hy;go_simp
  simp only [pA,pB,pC,pD];refine tv 2 ⟨some 31,_,_,_,_,none⟩ (.pointer (some ⟨p0,1,none⟩)) rfl (by rfl) ?_ hS ?_
  ·intro wy hy
   clear hy;go_simp
  simp only [pA,pB,pC,pD];refine tv 3 ⟨some 32,_,_,_,_,none⟩ (.map (some G.ml)) rfl (by rfl) ?_ hS ?_
  ·intro wy hy
   have h0:wy.cell? ⟨p0,1,none⟩=some (.map (some G.ml)):=((HP.out.below hy HP.out.lt)).cell rfl;clear hy;go_simp
  simp only [pA,pB,pC,pD];refine tv 4 ⟨some 33,_,_,_,_,none⟩ (.pointer (some ⟨q5,0,none⟩)) rfl (by rfl) ?_ hS ?_
  ·intro wy hy
   clear hy;go_simp
  simp only [pA,pB,pC,pD];refine tv 5 ⟨some 34,_,_,_,_,none⟩ (.string b.name) rfl (by rfl) ?_ hS ?_
  ·intro wy hy
   have h0:wy.cell? ⟨q5,0,none⟩=some (.string b.name):=((HQd.out.below hy HQd.out.lt)).cell rfl;clear hy;go_simp
  simp only [pA,pB,pC,pD];refine tu 6 ⟨some 35,_,_,_,_,none⟩ (.agg #[.string b.name,.string b.zone,.slice am b.marks.length cm,.int .i64 b.room,.int .i64 b.hold,.bool b.closed,.int .i64 b.room,.int .i64 b.hold,.int .i64 0,.slice none 0 0]) rfl (yieldsIf_load_mid (by rfl) _ _ rfl q6 (0) rfl [.string b.name,.string b.zone,.slice am b.marks.length cm,.int .i64 b.room,.int .i64 b.hold,.bool b.closed,.int .i64 b.room,.int .i64 b.hold,.int .i64 0,.slice none 0 0] _ (fun _ h=>((HRd.out.below h HRd.out.lt)).rangeA) Tryz.underlying92 rfl Fq) hS ?_;simp only [pA,pB,pC,pD];have hm3:∀ w,(Instr.makeMap 106 none).run Tryz.prog w=.ok (.map (some w.heap.size)) (w.alloc (.map #[] 0)):=fun w=>Iv _ w
  refine ru1 7 ⟨some 36,_,_,_,_,none⟩ rfl (fun KK hKK=>?_);go_simp;clear hm3;have hbm:Below wd.heap.size wd (wd.alloc (.map #[] 0)):=(Below.refl _ _).alloc nL _;have HT3:=iH (MapV.made wd (vCn Dm));refine hKK.out _ _ hbm (fun hS=>?_);clear hKK KK;have hdl:q6<wd.heap.size:=HRd.out.lt;have htl:wd.heap.size<(wd.alloc (.map #[] 0)).heap.size:=HT3.out.lt;have hS3:=hSd.below hbm;have HI3:=iH (HId.out.below hbm);have HQ3:=iH (HQd.out.below hbm HQd.out.lt);have HF3:=iH (HFd.out.below hbm HFd.out.lt);generalize wd.alloc (.map #[] 0)=w3 at *;generalize htb:wd.heap.size=tb at *;refine tv 8 ⟨some 37,_,_,_,_,none⟩ (.agg #[.string b.name,.string b.zone,.slice am b.marks.length cm,.int .i64 b.room,.int .i64 b.hold,.bool b.closed,.int .i64 b.room,.int .i64 b.hold,.int .i64 0,.slice none 0 0,.map (some tb)]) rfl (by rfl) ?_ hS ?_
  ·intro wy hy
   clear hy;go_simp
  simp only [pA,pB,pC,pD];refine ru1 9 ⟨some 38,_,_,_,_,none⟩ rfl (fun KK hKK=>?_);go_simp;have hbn2:Below w3.heap.size w3 (w3.alloc (Obj.cells #[.string b.name,.string b.zone,.slice am b.marks.length cm,.int .i64 b.room,.int .i64 b.hold,.bool b.closed,.int .i64 b.room,.int .i64 b.hold,.int .i64 0,.slice none 0 0,.map (some tb)] 111)):=(Below.refl _ _).alloc nL _;have HL4:=iH (Blk.alloc w3 #[.string b.name,.string b.zone,.slice am b.marks.length cm,.int .i64 b.room,.int .i64 b.hold,.bool b.closed,.int .i64 b.room,.int .i64 b.hold,.int .i64 0,.slice none 0 0,.map (some tb)] 111);refine hKK.out _ _ (hS.trans (hbn2.mono (by omega))) (fun hS=>?_);clear hKK KK;have HT4:=iH (HT3.out.below hbn2);have hS4:=hS3.below hbn2;have HI4:=iH (HI3.out.below hbn2);have HQ4:=iH (HQ3.out.below hbn2 HQ3.out.lt);have HF4:=iH (HF3.out.below hbn2 HF3.out.lt);clear HT3 hS3 HI3 HQ3 HF3 hbm;generalize w3.alloc (Obj.cells #[.string b.name,.string b.zone,.slice am b.marks.length cm,.int .i64 b.room,.int .i64 b.hold,.bool b.closed,.int .i64 b.room,.int .i64 b.hold,.int .i64 0,.slice none 0 0,.map (some tb)] 111)=w4 at *;generalize w3.heap.size=lb at *;obtain ⟨n1,f1,ha1,ha2,ha3,ha4⟩:=HI4.out.ML;obtain ⟨w5,hrun,hM5,hg5⟩:=ha2.store Tryz.underlying103 (show n1<maxLen by unfold maxLen;omega) (s:=b.name) (show b.name.size≤maxLen by unfold maxLen;omega) (.pointer (some ⟨lb,0,none⟩));obtain ⟨n2,f2,hc1,hc2,hc3,hc4⟩:=HI4.out.MZ;have okk:=HI4.out.ok;have hmlz:G.mz≠G.ml:=fun e=>by have h1:=okk.tmz.1;rw [e,okk.tml.1] at h1;cases h1
  have hmlp:G.p≠G.ml:=fun e=>by have h1:=okk.tp.1;rw [e,okk.tml.1] at h1;cases h1
  have hmll:G.ml<q5:=by obtain ⟨_,_,_,g2,_⟩:=HI.out.ML;rw [← hq5];exact g2.lt
  have hmzl:G.mz<q5:=by obtain ⟨_,_,_,g2,_⟩:=HI.out.MZ;rw [← hq5];exact g2.lt
  have hml0:=okk.tml.2;have hmz0:=okk.tmz.2;refine Bb (rs:=[10]) (by kernel_rfl) (by simp) (AllReadyU.last (o:=⟨none,_,_,_,_,none⟩) rfl (fun KK hKK=>?_));rw [if_pos (by rfl)];refine Jw (.tmp 32) (.tmp 34) (.tmp 38) 103 (by rfl) G.ml _ _ (by rfl) (by rfl) (by rfl) hrun ?_;refine hKK.out _ _ (Bp (by kernel_rfl) ?_ _);clear hKK KK hS hrun;have HM5:=iH hM5;have HZ5:=iH (hc2.grown hg5 hmlz);have HL5:=iH (HL4.out.grown hg5 (fun e=>by have:=Option.some.inj e;omega));have HT5:=iH (HT4.out.grown hg5 (by omega));have HQ5:=iH (HQ4.out.grown hg5 (fun e=>by have:=Option.some.inj e;omega));have HF5:=iH (HF4.out.grown hg5 (fun e=>by have:=Option.some.inj e;have:=HF4.out.lt;omega));have HP5:Hid (Blk p0 #[.bool x.pack,.map (some G.ml),.map (some G.mz),.map (some G.mt)] 108 w5):=by have h9:=HI4.out.P.grown hg5 (fun e=>hmlp (Option.some.inj e));rw [HGP.out] at h9;exact h9
  have hS5:=hS4.grown hg5 (by simp);have hB5:Below wa.heap.size wa w5:=HI4.out.hB.grown hg5 HI4.out.hB.size (fun j hj=>by cases hj;exact hml0);have hlb:lb<w4.heap.size:=HL4.out.lt;have hw45:=hg5.size;have HA3:=iH ha3;have HA4:=iH ha4;have HC3:=iH hc3;have HC4:=iH hc4;clear ha2 ha3 ha4 hc2 hc3 hc4 hM5 hg5 HL4 HT4 HQ4 HF4 hS4 HQd HRd HFd HP hSd HId;go_upto_region 7 with fail;have HPd:=iH HP5.out.drew;have HQd:=iH HQ5.out.drew;have hSd:=hS5.drew;have hBd:=hB5.drew;have hwd5:w5.heap.size≤w5.drew.heap.size:=Nat.le_refl _;have HM6:Hid (MapV w5.drew (.pointer none) G.ml (n1+1) (Mc f1 b.name (.pointer (some ⟨lb,0,none⟩)))):=HM5.out.heap rfl;have HZ6:Hid (MapV w5.drew (.map none) G.mz n2 f2):=HZ5.out.heap rfl;have HL6:=iH HL5.out.drew;have HT6:Hid (MapV w5.drew (vCn Dm) tb 0 (fun _=>none)):=HT5.out.heap rfl;have HF6:=iH HF5.out.drew;refine Bi (S:=fun wy=>Below w5.drew.heap.size w5.drew wy) 7 (by kernel_rfl) (Below.refl _ _) (fun hS=>?_);clear HP5 HQ5 hS5 hB5 HM5 HZ5 HL5 HT5 HF5;generalize w5.drew=w6 at *;refine tv 0 ⟨some 39,_,_,_,_,none⟩ (.pointer (some ⟨p0,0,none⟩)) rfl (by rfl) ?_ hS ?_
  ·intro wy hy
   clear hy;go_simp
  simp only [pN,pA,pB,pC,pD];refine tv 1 ⟨some 40,_,_,_,_,none⟩ (.pointer (some ⟨p0,0,none⟩)) rfl (by rfl) ?_ hS ?_
  ·intro wy hy
   clear hy;go_simp
  simp only [pA,pB,pC,pD];refine tv 2 ⟨some 41,_,_,_,_,none⟩ (.pointer (some ⟨p0,2,none⟩)) rfl (by rfl) ?_ hS ?_
  ·intro wy hy
   clear hy;go_simp
  simp only [pA,pB,pC,pD];refine tv 3 ⟨some 42,_,_,_,_,none⟩ (.map (some G.mz)) rfl (by rfl) ?_ hS ?_
  ·intro wy hy
   have h0:wy.cell? ⟨p0,2,none⟩=some (.map (some G.mz)):=((HPd.out.below hy HPd.out.lt)).cell rfl;clear hy;go_simp
  simp only [pA,pB,pC,pD];refine tv 4 ⟨some 43,_,_,_,_,none⟩ (.pointer (some ⟨q5,1,none⟩)) rfl (by rfl) ?_ hS ?_
  ·intro wy hy
   clear hy;go_simp
  simp only [pA,pB,pC,pD];refine tv 5 ⟨some 44,_,_,_,_,none⟩ (.string b.zone) rfl (by rfl) ?_ hS ?_
  ·intro wy hy
   have h0:wy.cell? ⟨q5,1,none⟩=some (.string b.zone):=((HQd.out.below hy HQd.out.lt)).cell rfl;clear hy;go_simp
  simp only [pA,pB,pC,pD];have hm3:∀ w,(Instr.makeMap 106 none).run Tryz.prog w=.ok (.map (some w.heap.size)) (w.alloc (.map #[] 0)):=fun w=>Iv _ w
  refine ru1 6 ⟨some 45,_,_,_,_,none⟩ rfl (fun KK hKK=>?_);go_simp;clear hm3;have hbm:Below w6.heap.size w6 (w6.alloc (.map #[] 0)):=(Below.refl _ _).alloc nL _;have HN7:=iH (MapV.made w6 (vCn Dm));refine hKK.out _ _ hbm (fun hS=>?_);clear hKK KK hS;have HM7:=iH (HM6.out.below hbm);have HZ7:=iH (HZ6.out.below hbm);have HL7:=iH (HL6.out.below hbm HL6.out.lt);have HT7:=iH (HT6.out.below hbm);have HF7:=iH (HF6.out.below hbm HF6.out.lt);have hS7:=hSd.below hbm;have hB7:=hBd.trans (hbm.mono hBd.size);have hS:=hbm;clear HM6 HZ6 HL6 HT6 HF6 hSd hBd HPd HQd;generalize w6.alloc (.map #[] 0)=w7 at *;generalize hzb:w6.heap.size=zb at *;obtain ⟨w8,hrun,hM8,hg8⟩:=HZ7.out.store Tryz.underlying104 (show n2<maxLen by unfold maxLen;omega) (s:=b.zone) (show b.zone.size≤maxLen by unfold maxLen;omega) (.map (some zb));refine Bb (rs:=[7]) (by kernel_rfl) (by simp) (AllReadyU.last (o:=⟨none,_,_,_,_,none⟩) rfl (fun KK hKK=>?_));rw [if_pos (by rfl)];refine Jw (.tmp 42) (.tmp 44) (.tmp 45) 104 (by rfl) G.mz _ _ (by rfl) (by rfl) (by rfl) hrun ?_;refine hKK.out _ _ (Bp (by kernel_rfl) ?_ _);clear hKK KK hS hrun;have HI9:=iH (LgI.berth HI.out HV.out HBB.out (lb:=lb) (tb:=tb) (zb:=zb) (n1:=n1) (n2:=n2) (f1:=f1) (f2:=f2) (am:=am) (cm:=cm) (w':=w8) (by have h9:=HL7.out.grown hg8 (fun e=>by have:=Option.some.inj e;omega);show Blk lb (lnV b am cm (0,0,0) tb) _ _;simp only [lnV,Int.sub_zero];exact h9) HSL.out (HT7.out.grown hg8 (by omega)) (HN7.out.grown hg8 (by omega)) (by omega) (by omega) (by omega) (by omega) (by omega) (by omega) (by omega) HA3.out HA4.out (by omega) HC3.out HC4.out (HM7.out.grown hg8 hmlz.symm) hM8 (hS7.grown hg8 (by simp)) (hB7.grown hg8 hB7.size (fun j hj=>by cases hj;exact hmz0)));have HF9:=iH (HF7.out.grown hg8 (fun e=>by have:=Option.some.inj e;have:=HF7.out.lt;omega));clear hM8 hg8 HL7 HT7 HN7 HM7 HZ7 HF7 hS7 hB7;go_wp2_with fail;go_roundw
  case rel=>exact ⟨k+1,G.ext k b.zone lb tb zb,by omega,by go_num,HGP,HI9,HF9⟩
  case measure=>simp [intOf];omega
end Go.Proofs.YtpeajnkkdioflaaGreat
