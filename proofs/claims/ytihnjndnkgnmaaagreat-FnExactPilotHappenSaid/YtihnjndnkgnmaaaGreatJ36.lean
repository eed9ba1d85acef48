import Derived.Test.YtihnjndnkgnmaaaGreatHp2
import Derived.Test.YtihnjndnkgnmaaaGreatJ33
import Derived.Test.YtihnjndnkgnmaaaGreatJ35
set_option maxHeartbeats 4000000
namespace Go.Proofs.YtihnjndnkgnmaaaGreat
set_option maxRecDepth 100000
open Go.RowKit Go.WideMaps Go.Maps
def chV (pf:Nat) (pk:Bool) (vb vs vc:Value) (v:Evt) (am:OA) (cm:Nat) (al:OA) (cl:Nat):Array Value:=#[.pointer (some ⟨pf,0,none⟩),.bool pk,vb,vs,vc,.int .i64 v.kind,.string v.berth.name,.string v.berth.zone,.slice am v.berth.marks.length cm,.int .i64 v.berth.room,.int .i64 v.berth.hold,.bool v.berth.closed,.string v.copy.name,.string v.copy.service,.int .i64 v.copy.rank,.int .i64 v.copy.born,.int .i64 v.copy.room,.int .i64 v.copy.hold,.string v.copy.select,.slice al v.copy.likes.length cl,.int .i64 v.copy.apart,.string v.copy.near,.string v.copy.fixed,.string v.copy.at_,.string v.name,.string v.at_]
section
variable {p pf:Nat} {pk:Bool} {vb vs vc:Value} {v:Evt} {am:OA} {cm:Nat} {al:OA} {cl:Nat} {t:TypeId} {w:World}
theorem chB (h:Blk p (chV pf pk vb vs vc v am cm al cl) t w):w.rangeAt p 6 (bbL v.berth am cm):=Aa (h.cell rfl) (Aa (h.cell rfl) (Aa (h.cell rfl) (Aa (h.cell rfl) (Aa (h.cell rfl) (Aa (h.cell rfl) (Ap _ _ _))))))
theorem chC (h:Blk p (chV pf pk vb vs vc v am cm al cl) t w):w.rangeAt p 12 (ccL v.copy al cl):=Aa (h.cell rfl) (Aa (h.cell rfl) (Aa (h.cell rfl) (Aa (h.cell rfl) (Aa (h.cell rfl) (Aa (h.cell rfl) (Aa (h.cell rfl) (Aa (h.cell rfl) (Aa (h.cell rfl) (Aa (h.cell rfl) (Aa (h.cell rfl) (Aa (h.cell rfl) (Ap _ _ _))))))))))))
theorem chF (h:Blk p (chV pf pk vb vs vc v am cm al cl) t w):w.rangeAt p 1 [.bool pk,vb,vs,vc]:=Aa (h.cell rfl) (Aa (h.cell rfl) (Aa (h.cell rfl) (Aa (h.cell rfl) (Ap _ _ _))))
end
theorem Jo {α:Type} {nm:α→BA} {xs:List α} (h:AscN (xs.map nm)) (s:BA):∀ (j k:Nat) u v,j≤k→xs[j]?=some u→xs[k]?=some v→Lib.compareBytes (nm v).data.toList s.data.toList<0→Lib.compareBytes (nm u).data.toList s.data.toList<0:=by
 intro j k u v hjk hu hv hl;by_cases e:j=k
 ·subst e
  rw [hu] at hv;cases hv
  exact hl
 ·have h1:=h.less (Hc (f:=nm) hu) (Hc (f:=nm) hv) (by omega)
  exact (Nz _ _).1 (dT _ _ _ h1 ((Nz _ _).2 hl))
theorem Cj {P:Program} {ops:Array Oper} {Q:Exit→Act→World→Prop} {md:Region.Mode} {S:World→Prop} {s i:Nat} {oi:Oper} {v:Value} {n:Nat} {l:Array Bool} {a:Act} {w:World} (hi:ops[i]?=some oi) (hr:Region.ready md ops l=[i]) (hy:YieldsIf P ops S oi v a) (hS:S w)
  (h:wpAnyU P md ops Q s S n (l.setIfInBounds i true) (a.put oi.dst v) w):wpAnyU P md ops Q s S (n+1) l a w :=
 ⟨fun h0=>(by rw [hr] at h0;cases h0),(by rw [hr];intro j hj;rw [List.mem_singleton.1 hj];exact hy.wpOp hi hS ⟨fun _=>hS,h⟩)⟩
structure AcPre (x:Flt) (v:Evt) (pf p m1 m2 m3 m4 b1 o1 c1:Nat) (a2:OA) (c2 b3 o3 c3:Nat) (am:OA) (cm:Nat) (al:OA) (cl lo:Nat) (W0 w:World):Prop where
 n1:SliceC BrtC 6 lo W0 (some ⟨b1,o1,none⟩) x.berths
 n3:SliceC CpyC 12 lo W0 (some ⟨b3,o3,none⟩) x.copies
 nm:SliceC StrC 1 lo W0 am v.berth.marks
 nl:SliceC LikC 2 lo W0 al v.copy.likes
 hlo:lo≤W0.heap.size
 hc1:x.berths.length≤c1
 hm1:c1≤maxLen
 hc3:x.copies.length≤c3
 hm3:c3≤maxLen
 z1:SzB (v.berth::x.berths)
 z3:SzC (v.copy::x.copies)
 zn:v.name.size≤maxLen
 za:v.at_.size≤maxLen
 hv:Bj x=true
 hB:Below W0.heap.size W0 w
 hp:W0.heap.size≤p
 hK:Blk p (chV pf x.pack (.slice (some ⟨b1,o1,none⟩) x.berths.length c1) (.slice a2 x.services.length c2) (.slice (some ⟨b3,o3,none⟩) x.copies.length c3) v am cm al cl) 76 w
 hF:Found pf m1 m2 m3 m4 x (some ⟨b1,o1,none⟩) c1 a2 c2 (some ⟨b3,o3,none⟩) c3 w
def Wk (x:Flt) (v:Evt) (pf p:Nat) (a2:OA) (c2:Nat) (am:OA) (cm:Nat) (al:OA) (cl lo:Nat) (w:World) (e:Ending) (w':World):Prop :=
 (evF x v=none∧e=.returned (.int .i64 3)∧Below p w w'∧w'.cell? ⟨p,5,none⟩=some (.int .i64 v.kind))∨∃ (y:Flt) (d1:OA) (q1:Nat) (d3:OA) (q3:Nat),evF x v=some y∧e=.returned (.int .i64 0)∧y.pack=x.pack∧y.services=x.services∧y.berths.length≤13∧y.copies.length≤61∧Blk p (chV pf x.pack (.slice d1 y.berths.length q1) (.slice a2 x.services.length c2) (.slice d3 y.copies.length q3) v am cm al cl) 76 w'∧SliceC BrtC 6 lo w' d1 y.berths∧SliceC CpyC 12 lo w' d3 y.copies∧Below p w w'
theorem Cb {p base:Nat} {T:TypeId} {n:Nat} {vv:Value} {k i:Nat} {ds:List Value} {w:World} (h:w.ownsRow base T n vv k ds) (hp:p<base) (u:Value):(w.setCell ⟨p,i,none⟩ u).ownsRow base T n vv k ds:=by
 refine h.kept (Bd w ⟨p,i,none⟩ u) ?_
 cases e:vv.ownBlock with
 | none=>exact .inl rfl
 | some b =>
  refine .inr (fun e2=>?_);have h9:=(h.lt b e).1;have e3:b=p:=Option.some.inj e2;omega
theorem Gj {base:Nat} {T:TypeId} {n:Nat} {vv:Value} {k:Nat} {ds:List Value} {w:World} (h:w.ownsRow base T n vv k ds):∃ d q,vv=.slice d k q:=by
 rcases h.2 with ⟨h1,h2⟩ | ⟨g,cap,cur,h1,_⟩
 ·exact ⟨none,0,by rw [h1,h2]⟩
 ·exact ⟨_,cap,h1⟩
theorem Fk {p i:Nat} {a b:World} (h:Below p a b) (u:Value):Below p a (b.setCell ⟨p,i,none⟩ u):=h.setCell (p:=⟨p,i,none⟩) nL u
theorem Xy (x:Flt) (v:Evt) (pf p m1 m2 m3 m4 b1 o1 c1:Nat) (a2:OA) (c2 b3 o3 c3:Nat) (am:OA) (cm:Nat) (al:OA) (cl lo:Nat) (W0 w:World) (H:AcPre x v pf p m1 m2 m3 m4 b1 o1 c1 a2 c2 b3 o3 c3 am cm al cl lo W0 w) (hkd:v.kind=1) :
  Calls Tryz.prog 97 #[.pointer (some ⟨p,0,none⟩)] w fun e w'=>Wk x v pf p a2 c2 am cm al cl lo w e w':=by
 have HEV:Hid (evF x v=some { x with berths:=(Aq Brt.name x.berths v.berth) }):=by
  show evF x v=_
  simp [evF,hkd]
 have HA:=iH (Bx H.hv).2.1;have hl1:x.berths.length≤13:=lT (Bx H.hv).1 (by omega);have hl3:x.copies.length≤61:=lT (Bm H.hv).2.1 (by omega);have hln:(Aq Brt.name x.berths v.berth).length≤13:=lT (Dn _ _ _) (by have h8:=(Bx H.hv).1;have h9:=(Bm H.hv).2.1;omega);have HP:=iH H;have HK:=iH H.hK;have hB:=H.hB;clear H hkd;go_enter Tryz.func97,Tryz.ntmps97;go_upto_region 1 with fail;refine Av (S:=fun wy=>Blk p (chV pf x.pack (.slice (some ⟨b1,o1,none⟩) x.berths.length c1) (.slice a2 x.services.length c2) (.slice (some ⟨b3,o3,none⟩) x.copies.length c3) v am cm al cl) 76 wy) 15 (by kernel_rfl) HK.out.drew (fun hS=>?_);replace hB:=hB.drew;have hBp:Below p w w.drew:=(Below.refl p w).drew;replace HK:=iH HK.out.drew;have hpd:p<w.drew.heap.size:=HK.out.lt;generalize w.drew=wn at *;refine tv 0 ⟨some 3,_,_,_,_,none⟩ (.pointer (some ⟨p,0,none⟩)) rfl (by rfl) ?_ hS ?_
 ·intro wy hy
  clear hy;go_simp
 simp only [pX];refine tv 1 ⟨some 4,_,_,_,_,none⟩ (.pointer (some ⟨p,0,none⟩)) rfl (by rfl) ?_ hS ?_
 ·intro wy hy
  clear hy;go_simp
 simp only [pX];refine tv 2 ⟨some 5,_,_,_,_,none⟩ (.pointer (some ⟨p,0,none⟩)) rfl (by rfl) ?_ hS ?_
 ·intro wy hy
  clear hy;go_simp
 simp only [pX];refine tv 3 ⟨some 6,_,_,_,_,none⟩ (.pointer (some ⟨p,1,none⟩)) rfl (by rfl) ?_ hS ?_
 ·intro wy hy
  clear hy;go_simp
 simp only [pX];refine tv 4 ⟨some 7,_,_,_,_,none⟩ (.pointer (some ⟨p,2,none⟩)) rfl (by rfl) ?_ hS ?_
 ·intro wy hy
  clear hy;go_simp
 simp only [pX];refine tv 5 ⟨some 8,_,_,_,_,none⟩ (.slice (some ⟨b1,o1,none⟩) x.berths.length c1) rfl (by rfl) ?_ hS ?_
 ·intro wy hy
  have h0:wy.cell? ⟨p,2,none⟩=some (.slice (some ⟨b1,o1,none⟩) x.berths.length c1):=Blk.cell hy rfl;clear hy;go_simp
 simp only [pX];refine tv 6 ⟨some 9,_,_,_,_,none⟩ (.pointer (some ⟨p,0,none⟩)) rfl (by rfl) ?_ hS ?_
 ·intro wy hy
  clear hy;go_simp
 simp only [pX];refine tv 7 ⟨some 10,_,_,_,_,none⟩ (.pointer (some ⟨p,0,none⟩)) rfl (by rfl) ?_ hS ?_
 ·intro wy hy
  clear hy;go_simp
 simp only [pX];refine tv 8 ⟨some 11,_,_,_,_,none⟩ (.pointer (some ⟨p,5,none⟩)) rfl (by rfl) ?_ hS ?_
 ·intro wy hy
  clear hy;go_simp
 simp only [pX];refine tv 9 ⟨some 12,_,_,_,_,none⟩ (.pointer (some ⟨p,6,none⟩)) rfl (by rfl) ?_ hS ?_
 ·intro wy hy
  clear hy;go_simp
 simp only [pX];refine tu 10 ⟨some 13,_,_,_,_,none⟩ (.agg (bbA v.berth am cm)) rfl (yieldsIf_load_mid (by rfl) _ _ rfl p (6) rfl (bbL v.berth am cm) _ (fun _ h=>chB h) Tryz.underlying45 rfl Cc) hS ?_;simp only [pX];refine ru1 11 ⟨some 14,_,_,_,_,none⟩ rfl (fun KK hKK=>?_);go_simp;refine (Xq x.berths v.berth b1 o1 am c1 cm lo W0 _ hB HP.out.n1 HP.out.nm (by omega) HP.out.hc1 HP.out.hm1 (Jo HA _)).mono ?_;rintro e w5 ⟨vv,ds,rfl,hO,hE,hb5⟩;obtain ⟨d,q,rfl⟩:=Gj hO;have HO:=iH hO;have HE:=iH hE;have hB5:=qt hB hb5;have hBp5:=hBp.trans (hb5.mono (lE hpd));have HK5:=qb HK hb5;refine hKK.out _ _ HK5 (fun hS=>?_);clear hKK KK hO hE hb5 hB hBp HK;refine Cj (i:=12) (oi:=⟨some 15,_,_,_,_,none⟩) (v:=.pointer (some ⟨p,0,none⟩)) rfl (by kernel_rfl) (Or.inl ⟨by rfl,?_⟩) hS ?_
 ·intro wy hy
  clear hy;go_simp
 simp only [pX];refine Cj (i:=13) (oi:=⟨some 16,_,_,_,_,none⟩) (v:=.pointer (some ⟨p,1,none⟩)) rfl (by kernel_rfl) (Or.inl ⟨by rfl,?_⟩) hS ?_
 ·intro wy hy
  clear hy;go_simp
 simp only [pX];refine tv 14 ⟨some 17,_,_,_,_,none⟩ (.pointer (some ⟨p,2,none⟩)) rfl (by rfl) ?_ hS ?_
 ·intro wy hy
  clear hy;go_simp
 simp only [pX];have kz:=HK5.out.cell (o:=2) rfl;have fz:=HK5.out.frozen 2;refine Bb (rs:=[15]) (by kernel_rfl) (by simp) (AllReadyU.last (o:=⟨none,_,_,_,_,none⟩) rfl (fun KK hKK=>?_));go_simp;clear kz fz;have HK6:Hid (Blk p (chV pf x.pack ((.slice d (Aq Brt.name x.berths v.berth).length q)) (.slice a2 x.services.length c2) (.slice (some ⟨b3,o3,none⟩) x.copies.length c3) v am cm al cl) 76 (w5.setCell ⟨p,2,none⟩ (.slice d (Aq Brt.name x.berths v.berth).length q))):=HK5.out.set 2 _;have HO6:=iH (Cb (i:=2) HO hpd (.slice d (Aq Brt.name x.berths v.berth).length q));have hBp6:=Fk (i:=2) hBp5 (.slice d (Aq Brt.name x.berths v.berth).length q);have hB6:Below W0.heap.size W0 (w5.setCell ⟨p,2,none⟩ (.slice d (Aq Brt.name x.berths v.berth).length q)):=hB5.setCell (p:=⟨p,2,none⟩) HP.out.hp _;refine hKK.out _ _ (Bl (by kernel_rfl) ?_ _);clear hKK KK hS HO HK5 hB5 hBp5;generalize w5.setCell ⟨p,2,none⟩ (.slice d (Aq Brt.name x.berths v.berth).length q)=w6 at *;obtain ⟨d9,q9,e9,hsl⟩:=Kk HO6 (lT HP.out.hlo (lT HP.out.hp (lE hpd))) (HE.out.below StrC.holds hB6 nL) (fun y hy=>HP.out.z1 y (by rcases Eh hy with h | h <;> simp [h])) (by unfold maxLen;omega);have e8:d=d9:=by injection e9
 subst e8;have HSL:=iH hsl;clear hsl HO6 HE e9;go_wp2_with fail;go_ret;exact .inr ⟨{ x with berths:=(Aq Brt.name x.berths v.berth) },d,q,some ⟨b3,o3,none⟩,c3,HEV,rfl,rfl,rfl,hln,hl3,HK6,HSL,HP.out.n3.below CpyC.holds hB6 nL,hBp6⟩
theorem Ye (x:Flt) (v:Evt) (pf p m1 m2 m3 m4 b1 o1 c1:Nat) (a2:OA) (c2 b3 o3 c3:Nat) (am:OA) (cm:Nat) (al:OA) (cl lo:Nat) (W0 w:World) (H:AcPre x v pf p m1 m2 m3 m4 b1 o1 c1 a2 c2 b3 o3 c3 am cm al cl lo W0 w) (hkd:v.kind=3) :
  Calls Tryz.prog 99 #[.pointer (some ⟨p,0,none⟩)] w fun e w'=>Wk x v pf p a2 c2 am cm al cl lo w e w':=by
 have HEV:Hid (evF x v=some { x with copies:=(Aq Cpy.name x.copies v.copy) }):=by
  show evF x v=_
  simp [evF,hkd]
 have HA:=iH (Bm H.hv).2.2.2.1;have hl1:x.berths.length≤13:=lT (Bx H.hv).1 (by omega);have hl3:x.copies.length≤61:=lT (Bm H.hv).2.1 (by omega);have hln:(Aq Cpy.name x.copies v.copy).length≤61:=lT (Dn _ _ _) (by have h8:=(Bx H.hv).1;have h9:=(Bm H.hv).2.1;omega);have HP:=iH H;have HK:=iH H.hK;have hB:=H.hB;clear H hkd;go_enter Tryz.func99,Tryz.ntmps99;go_upto_region 1 with fail;refine Av (S:=fun wy=>Blk p (chV pf x.pack (.slice (some ⟨b1,o1,none⟩) x.berths.length c1) (.slice a2 x.services.length c2) (.slice (some ⟨b3,o3,none⟩) x.copies.length c3) v am cm al cl) 76 wy) 15 (by kernel_rfl) HK.out.drew (fun hS=>?_);replace hB:=hB.drew;have hBp:Below p w w.drew:=(Below.refl p w).drew;replace HK:=iH HK.out.drew;have hpd:p<w.drew.heap.size:=HK.out.lt;generalize w.drew=wn at *;refine tv 0 ⟨some 3,_,_,_,_,none⟩ (.pointer (some ⟨p,0,none⟩)) rfl (by rfl) ?_ hS ?_
 ·intro wy hy
  clear hy;go_simp
 simp only [pX];refine tv 1 ⟨some 4,_,_,_,_,none⟩ (.pointer (some ⟨p,0,none⟩)) rfl (by rfl) ?_ hS ?_
 ·intro wy hy
  clear hy;go_simp
 simp only [pX];refine tv 2 ⟨some 5,_,_,_,_,none⟩ (.pointer (some ⟨p,0,none⟩)) rfl (by rfl) ?_ hS ?_
 ·intro wy hy
  clear hy;go_simp
 simp only [pX];refine tv 3 ⟨some 6,_,_,_,_,none⟩ (.pointer (some ⟨p,1,none⟩)) rfl (by rfl) ?_ hS ?_
 ·intro wy hy
  clear hy;go_simp
 simp only [pX];refine tv 4 ⟨some 7,_,_,_,_,none⟩ (.pointer (some ⟨p,4,none⟩)) rfl (by rfl) ?_ hS ?_
 ·intro wy hy
  clear hy;go_simp
 simp only [pX];refine tv 5 ⟨some 8,_,_,_,_,none⟩ (.slice (some ⟨b3,o3,none⟩) x.copies.length c3) rfl (by rfl) ?_ hS ?_
 ·intro wy hy
  have h0:wy.cell? ⟨p,4,none⟩=some (.slice (some ⟨b3,o3,none⟩) x.copies.length c3):=Blk.cell hy rfl;clear hy;go_simp
 simp only [pX];refine tv 6 ⟨some 9,_,_,_,_,none⟩ (.pointer (some ⟨p,0,none⟩)) rfl (by rfl) ?_ hS ?_
 ·intro wy hy
  clear hy;go_simp
 simp only [pX];refine tv 7 ⟨some 10,_,_,_,_,none⟩ (.pointer (some ⟨p,0,none⟩)) rfl (by rfl) ?_ hS ?_
 ·intro wy hy
  clear hy;go_simp
 simp only [pX];refine tv 8 ⟨some 11,_,_,_,_,none⟩ (.pointer (some ⟨p,5,none⟩)) rfl (by rfl) ?_ hS ?_
 ·intro wy hy
  clear hy;go_simp
 simp only [pX];refine tv 9 ⟨some 12,_,_,_,_,none⟩ (.pointer (some ⟨p,12,none⟩)) rfl (by rfl) ?_ hS ?_
 ·intro wy hy
  clear hy;go_simp
 simp only [pX];refine tu 10 ⟨some 13,_,_,_,_,none⟩ (.agg (ccA v.copy al cl)) rfl (yieldsIf_load_mid (by rfl) _ _ rfl p (12) rfl (ccL v.copy al cl) _ (fun _ h=>chC h) Tryz.underlying48 rfl Bh) hS ?_;simp only [pX];refine ru1 11 ⟨some 14,_,_,_,_,none⟩ rfl (fun KK hKK=>?_);go_simp;refine (Ky x.copies v.copy b3 o3 al c3 cl lo W0 _ hB HP.out.n3 HP.out.nl (by omega) HP.out.hc3 HP.out.hm3 (Jo HA _)).mono ?_;rintro e w5 ⟨vv,ds,rfl,hO,hE,hb5⟩;obtain ⟨d,q,rfl⟩:=Gj hO;have HO:=iH hO;have HE:=iH hE;have hB5:=qt hB hb5;have hBp5:=hBp.trans (hb5.mono (lE hpd));have HK5:=qb HK hb5;refine hKK.out _ _ HK5 (fun hS=>?_);clear hKK KK hO hE hb5 hB hBp HK;refine Cj (i:=12) (oi:=⟨some 15,_,_,_,_,none⟩) (v:=.pointer (some ⟨p,0,none⟩)) rfl (by kernel_rfl) (Or.inl ⟨by rfl,?_⟩) hS ?_
 ·intro wy hy
  clear hy;go_simp
 simp only [pX];refine Cj (i:=13) (oi:=⟨some 16,_,_,_,_,none⟩) (v:=.pointer (some ⟨p,1,none⟩)) rfl (by kernel_rfl) (Or.inl ⟨by rfl,?_⟩) hS ?_
 ·intro wy hy
  clear hy;go_simp
 simp only [pX];refine tv 14 ⟨some 17,_,_,_,_,none⟩ (.pointer (some ⟨p,4,none⟩)) rfl (by rfl) ?_ hS ?_
 ·intro wy hy
  clear hy;go_simp
 simp only [pX];have kz:=HK5.out.cell (o:=4) rfl;have fz:=HK5.out.frozen 4;refine Bb (rs:=[15]) (by kernel_rfl) (by simp) (AllReadyU.last (o:=⟨none,_,_,_,_,none⟩) rfl (fun KK hKK=>?_));go_simp;clear kz fz;have HK6:Hid (Blk p (chV pf x.pack (.slice (some ⟨b1,o1,none⟩) x.berths.length c1) (.slice a2 x.services.length c2) ((.slice d (Aq Cpy.name x.copies v.copy).length q)) v am cm al cl) 76 (w5.setCell ⟨p,4,none⟩ (.slice d (Aq Cpy.name x.copies v.copy).length q))):=HK5.out.set 4 _;have HO6:=iH (Cb (i:=4) HO hpd (.slice d (Aq Cpy.name x.copies v.copy).length q));have hBp6:=Fk (i:=4) hBp5 (.slice d (Aq Cpy.name x.copies v.copy).length q);have hB6:Below W0.heap.size W0 (w5.setCell ⟨p,4,none⟩ (.slice d (Aq Cpy.name x.copies v.copy).length q)):=hB5.setCell (p:=⟨p,4,none⟩) HP.out.hp _;refine hKK.out _ _ (Bl (by kernel_rfl) ?_ _);clear hKK KK hS HO HK5 hB5 hBp5;generalize w5.setCell ⟨p,4,none⟩ (.slice d (Aq Cpy.name x.copies v.copy).length q)=w6 at *;obtain ⟨d9,q9,e9,hsl⟩:=Hg HO6 (lT HP.out.hlo (lT HP.out.hp (lE hpd))) (HE.out.below LikC.holds hB6 nL) (fun y hy=>HP.out.z3 y (by rcases Eh hy with h | h <;> simp [h])) (by unfold maxLen;omega);have e8:d=d9:=by injection e9
 subst e8;have HSL:=iH hsl;clear hsl HO6 HE e9;go_wp2_with fail;go_ret;exact .inr ⟨{ x with copies:=(Aq Cpy.name x.copies v.copy) },some ⟨b1,o1,none⟩,c1,d,q,HEV,rfl,rfl,rfl,hl1,hln,HK6,HP.out.n1.below BrtC.holds hB6 nL,HSL,hBp6⟩
theorem EAt.set {α β:Type} {V:α→Value→List Value} {sub:α→List β} {C:Db β} {m n lo:Nat} {w:World} {ds:List Value} {l:List α} {k:Nat} {y:α} {ae:OA} {ce:Nat} (hV:∀ x s,(V x s).length=n) (hd:ds.length=l.length*n) (h:EAt V sub C m n lo w ds l) (hk:k<l.length) (hs:SliceC C m lo w ae (sub y)):EAt V sub C m n lo w (Bu ds (k*n) (V y (.slice ae (sub y).length ce))) (l.set k y):=by
 have hkn:(k+1)*n≤l.length*n:=Nat.mul_le_mul_right n (by omega);rw [Nat.add_mul] at hkn;intro j x hj;by_cases e:j=k
 ·subst e
  rw [List.getElem?_set_self hk] at hj;cases hj
  refine ⟨ae,ce,fun i u hu=>?_,hs⟩;have hi:i<n:=by have:=Ae hu;rwa [hV] at this
  rw [Hm _ _ _ _ (by rw [hV];omega) (by rw [hV];exact hi)];exact hu
 ·rw [List.getElem?_set_ne (fun h=>e h.symm)] at hj
  obtain ⟨ae',ce',q1,q2⟩:=h j x hj;refine ⟨ae',ce',fun i u hu=>?_,q2⟩;have hi:i<n:=by have:=Ae hu;rwa [hV] at this
  rw [Er _ _ _ _ (by
   rw [hV];rcases Nat.lt_or_ge j k with h1 | h1
   ·have:(j+1)*n≤k*n:=Nat.mul_le_mul_right n (by omega)
    rw [Nat.add_mul] at this;omega
   ·have:(k+1)*n≤j*n:=Nat.mul_le_mul_right n (by omega)
    rw [Nat.add_mul] at this
    omega)]
  exact q1 i u hu
def MapTo (f:Cpy→Cpy) (xs:List Cpy) (k:Nat) (l:List Cpy):Prop:=l.length=xs.length∧∀ j:Nat,l[j]?=if j<k then xs[j]?.map f else xs[j]?
theorem MapTo.step {f:Cpy→Cpy} {xs l:List Cpy} {k:Nat} {x:Cpy} (h:MapTo f xs k l) (hx:xs[k]?=some x):MapTo f xs (k+1) (l.set k (f x)):=by
 refine ⟨by rw [List.length_set];exact h.1,fun j=>?_⟩;have hk:=Ae hx;by_cases e:j=k
 ·subst e
  rw [List.getElem?_set_self (by rw [h.1];exact hk),if_pos (by omega),hx];rfl
 ·rw [List.getElem?_set_ne (fun h=>e h.symm),h.2 j]
  by_cases hjk:j<k
  ·rw [if_pos hjk,if_pos (by omega)]
  ·rw [if_neg hjk,if_neg (by omega)]
theorem MapTo.done {f:Cpy→Cpy} {xs l:List Cpy} (h:MapTo f xs xs.length l):l=xs.map f:=by
 refine List.ext_getElem? (fun j=>?_);rw [h.2 j,List.getElem?_map];by_cases hj:j<xs.length
 ·rw [if_pos hj]
 ·rw [if_neg hj,List.getElem?_eq_none (by omega)]
  rfl
theorem Yq (s:BA) (c:Cpy):(Cf s c).likes=c.likes:=by
 unfold Cf
 split <;> rfl
theorem aM {s:BA} {l:List Cpy} (h:SzC l):SzC (l.map (Cf s)):=by
 intro y hy;obtain ⟨c,hc,rfl⟩:=List.mem_map.1 hy;obtain ⟨h1,h2,h3,h4,h5,h6⟩:=h c hc;unfold Cf
 split
 ·exact ⟨h1,h2,h3,h4,h5,zL⟩
 ·exact ⟨h1,h2,h3,h4,h5,h6⟩
theorem fA (c:Cpy) (ax:OA) (cx:Nat) (s:BA) (pb p:Nat) (w:World) (hpb:w.cell? ⟨pb,0,none⟩=some (.pointer (some ⟨p,0,none⟩))) (hn:w.cell? ⟨p,24,none⟩=some (.string s)) :
  Calls Tryz.prog 122 #[.agg (ccA c ax cx),.pointer (some ⟨pb,0,none⟩)] w (Rt (.agg #[.string (Cf s c).name,.string (Cf s c).service,.int .i64 (Cf s c).rank,.int .i64 (Cf s c).born,.int .i64 (Cf s c).room,.int .i64 (Cf s c).hold,.string (Cf s c).select,.slice ax (Cf s c).likes.length cx,.int .i64 (Cf s c).apart,.string (Cf s c).near,.string (Cf s c).fixed,.string (Cf s c).at_]) w):=by
 have h1:=Blk.alloc w (ccA c ax cx) 48;have HK2:=iH (h1.below ((Below.refl _ _).alloc nL (Obj.cells xxA 48)) h1.lt);have HZ2:=al2 w (ccA c ax cx) 48 xxA 48;have hB2:=bl2 w (ccA c ax cx) 48 xxA 48;have k0:((w.alloc (Obj.cells (ccA c ax cx) 48)).alloc (Obj.cells xxA 48)).cell? ⟨pb,0,none⟩=some (.pointer (some ⟨p,0,none⟩)):=(hB2.cell (p:=⟨pb,0,none⟩) (block_lt_of_cell hpb)).trans hpb;have kn:((w.alloc (Obj.cells (ccA c ax cx) 48)).alloc (Obj.cells xxA 48)).cell? ⟨p,24,none⟩=some (.string s):=(hB2.cell (p:=⟨p,24,none⟩) (block_lt_of_cell hn)).trans hn;clear h1 hpb hn;go_enter Tryz.func122,Tryz.ntmps122;go_upto_region 1 with fail;generalize ((w.alloc (Obj.cells (ccA c ax cx) 48)).alloc (Obj.cells xxA 48))=w2 at *;have k11:w2.cell? ⟨w.heap.size,11,none⟩=some (.string c.at_):=HK2.out.cell rfl;by_cases he:c.at_=s
 ·have HE:Hid (Cf s c={ c with at_:=Gn }):=if_pos he
  rw [he] at k11;clear he
  go_region
  have HK3:=iH HK2.out.drew;have HZ3:=iH HZ2.out.drew;have hB3:=hB2.drew;clear HK2 HZ2 hB2 k0 kn k11;generalize w2.drew=w3 at *;have kx:=HK3.out.cell (o:=11) rfl;have fx:=HK3.out.frozen 11;go_upto_region 3 with fail;clear kx fx;have HK4:Hid (Blk w.heap.size #[.string c.name,.string c.service,.int .i64 c.rank,.int .i64 c.born,.int .i64 c.room,.int .i64 c.hold,.string c.select,.slice ax c.likes.length cx,.int .i64 c.apart,.string c.near,.string c.fixed,.string ⟨#[]⟩] 48 (w3.setCell ⟨w.heap.size,11,none⟩ (.string ⟨#[]⟩))):=HK3.out.set 11 _;have HZ4:Hid (Blk (w.heap.size+1) xxA 48 (w3.setCell ⟨w.heap.size,11,none⟩ (.string ⟨#[]⟩))):=HZ3.out.other (a:=⟨w.heap.size,11,none⟩) (show w.heap.size+1≠w.heap.size by omega) _;have hB4:Below w.heap.size w (w3.setCell ⟨w.heap.size,11,none⟩ (.string ⟨#[]⟩)):=hB3.setCell (p:=⟨w.heap.size,11,none⟩) nL _;clear HK3 HZ3 hB3;generalize w3.setCell ⟨w.heap.size,11,none⟩ (.string ⟨#[]⟩)=w4 at *;have HTR:=iH HZ4.out.there;obtain ⟨w8,HW8⟩:∃ w',Hid (w'=w4.setCells (w.heap.size+1) 0 [.string c.name,.string c.service,.int .i64 c.rank,.int .i64 c.born,.int .i64 c.room,.int .i64 c.hold,.string c.select,.slice ax c.likes.length cx,.int .i64 c.apart,.string c.near,.string c.fixed,.string ⟨#[]⟩]):=⟨_,rfl⟩;have HR8:Hid (w8.rangeAt (w.heap.size+1) 0 [.string c.name,.string c.service,.int .i64 c.rank,.int .i64 c.born,.int .i64 c.room,.int .i64 c.hold,.string c.select,.slice ax c.likes.length cx,.int .i64 c.apart,.string c.near,.string c.fixed,.string ⟨#[]⟩]):=by
   show World.rangeAt _ _ _ _
   rw [HW8.out];exact World.rangeAt_setCells_same _ _ _ _ HTR
  have hB8:Below w.heap.size w w8:=by
   rw [HW8.out];exact Ac (by omega) _ _ _ hB4
  clear hB4 HZ4;go_wp2_with (first | (refine wpList_load_mid rfl 48 _ rfl w.heap.size 0 rfl [.string c.name,.string c.service,.int .i64 c.rank,.int .i64 c.born,.int .i64 c.room,.int .i64 c.hold,.string c.select,.slice ax c.likes.length cx,.int .i64 c.apart,.string c.near,.string c.fixed,.string ⟨#[]⟩] _ HK4.out.rangeA Tryz.underlying48 rfl Bh ?_) | (refine Ad rfl 48 _ _ rfl (w.heap.size+1) 0 #[.string c.name,.string c.service,.int .i64 c.rank,.int .i64 c.born,.int .i64 c.room,.int .i64 c.hold,.string c.select,.slice ax c.likes.length cx,.int .i64 c.apart,.string c.near,.string c.fixed,.string ⟨#[]⟩] rfl rfl HTR Bh (by simp [Value.oneCell']) w8 HW8 ?_));exact bodyPost_ret (Ax rfl _ _ (w.heap.size+1) [.string c.name,.string c.service,.int .i64 c.rank,.int .i64 c.born,.int .i64 c.room,.int .i64 c.hold,.string c.select,.slice ax c.likes.length cx,.int .i64 c.apart,.string c.near,.string c.fixed,.string ⟨#[]⟩] _ rfl HR8 Tryz.underlying48 rfl Bh) rfl ⟨by first | (rw [HE.out];done) | (rw [HE.out];rfl),hB8⟩
 ·have HE:Hid (Cf s c=c):=if_neg he
  have ht:=Fd he
  go_region
  have HK4:=iH HK2.out.drew;have HZ4:=iH HZ2.out.drew;have hB4:=hB2.drew;clear HK2 HZ2 hB2 k0 kn k11;generalize w2.drew=w4 at *;have HTR:=iH HZ4.out.there;obtain ⟨w8,HW8⟩:∃ w',Hid (w'=w4.setCells (w.heap.size+1) 0 (ccL c ax cx)):=⟨_,rfl⟩;have HR8:Hid (w8.rangeAt (w.heap.size+1) 0 (ccL c ax cx)):=by
   show World.rangeAt _ _ _ _
   rw [HW8.out];exact World.rangeAt_setCells_same _ _ _ _ HTR
  have hB8:Below w.heap.size w w8:=by
   rw [HW8.out];exact Ac (by omega) _ _ _ hB4
  clear hB4 HZ4;go_wp2_with (first | (refine lk Exq HK4 ?_) | (refine Ad rfl 48 _ _ rfl (w.heap.size+1) 0 (ccA c ax cx) rfl rfl HTR Bh (by simp [Value.oneCell']) w8 HW8 ?_));exact bodyPost_ret (Ax rfl _ _ (w.heap.size+1) (ccL c ax cx) _ rfl HR8 Tryz.underlying48 rfl Bh) rfl ⟨by first | (rw [HE.out];done) | (rw [HE.out];rfl),hB8⟩
theorem Xv (n:Nat) (cs:List Value) (ad:Addr) (cap:Nat) (w:World) (hcl:cs.length=n*12) (hcs:∀ j u,cs[j]?=some u→w.cell? (ad.add j)=some u) (hc1:∀ u∈cs,u.oneCell'=true) (hsm:n≤1048576) :
  Calls Tryz.prog 106 #[.slice (some ad) n cap] w fun e w'=>∃ g c,e=.returned (.slice (some ⟨g,0,none⟩) n c)∧w'.ownsRow w.heap.size 48 12 (.slice (some ⟨g,0,none⟩) n c) n cs∧Below w.heap.size w w':=by
 obtain ⟨i0,hi,hz0,hz1,hz2⟩:=info_parts Fq;have q22:∀ (w:World) (a:OA) (n c n' c':Nat),(binOp .eql 39 (.slice a n c) (.slice none n' c')).run Tryz.prog w=.ok (.bool a.isNone) w:=fun w a n c n' c'=>Lib.run_eql_slice_nil w _ _ a n c n' c' Tryz.underlying39
 have HCL:=iH hcl;have HS:=iH hcs;have HC1:=iH hc1;clear hcl hcs hc1;go_enter Tryz.func106,Tryz.ntmps106;go_wp2_with (at_builtin;refine wpList_append_own _ rfl _ _ 39 rfl w.heap.size 48 i0 _ 12 160 Tryz.underlying39 hi hz0 hz1 hz2 rfl (by decide) _ _ _ rfl (World.ownsRow_made w #[] 0 nL (zL) rfl) ad n _ cs rfl HCL (fun j u hj=>Lib.cell?_alloc_some _ (HS j u hj)) HC1 (by unfold maxLen;omega) (by omega) (by simp) ?_;intro v' w1 hown hgrow hnil);have hv:v'≠.slice none 0 0:=fun e=>by have:=(hnil.1 e).1;cases this
 have hown':w1.ownsRow w.heap.size 48 12 v' n cs:=by simpa using hown
 obtain ⟨g,c,rfl⟩:=Dj hown' hv;have HO:=iH hown';have hB:Below w.heap.size w w1:=((Below.refl _ w).alloc nL _).grown hgrow (by simp) (by intro k hk;cases hk;exact Nat.le_refl _);clear hown hgrow hnil hv hown';go_wp2_with fail;go_ret;exact ⟨g,c,rfl,HO,hB⟩
theorem Uf (xs:List Cpy) (s:BA) (b0 o0:Nat) (cap lo pb p:Nat) (W0 w:World) (hB0:Below W0.heap.size W0 w) (hin:SliceC CpyC 12 lo W0 (some ⟨b0,o0,none⟩) xs) (hsm:xs.length≤1048576) (hpb:w.cell? ⟨pb,0,none⟩=some (.pointer (some ⟨p,0,none⟩))) (hn:w.cell? ⟨p,24,none⟩=some (.string s)) :
  Calls Tryz.prog 70 #[.slice (some ⟨b0,o0,none⟩) xs.length cap,.func (.func 122) #[] #[.pointer (some ⟨pb,0,none⟩)]] w fun e w'=>∃ vv ds,e=.returned vv∧w'.ownsRow w.heap.size 48 12 vv (xs.map (Cf s)).length ds∧EAt vCp Cpy.likes LikC 2 12 lo W0 ds (xs.map (Cf s))∧Below w.heap.size w w':=by
 have HPB:=iH hpb;have HNN:=iH hn;obtain ⟨cs,hc1,hc2,hc3,hc4⟩:=Hr hin;have HC2:Hid (∀ j u,cs[j]?=some u→w.cell? ((⟨b0,o0,none⟩:Addr).add j)=some u):=fun j u hj=>(hB0.cell (p:=(⟨b0,o0,none⟩:Addr).add j) (block_lt_of_cell (hc2 j u hj))).trans (hc2 j u hj)
 have HC4:Hid (EAt vCp Cpy.likes LikC 2 12 lo W0 cs xs):=hc4;have HC1:=iH hc1;have HC3:=iH hc3;clear hin hpb hn hc1 hc2 hc3 hc4;go_enter Tryz.func70,Tryz.ntmps70;go_wp2_with fail;refine (Xv xs.length cs ⟨b0,o0,none⟩ cap _ HC1 HC2 HC3 hsm).mono ?_;rintro e w1 ⟨g,q,rfl,hO1,hB1⟩;have HO1:=iH hO1;have HM0:Hid (MapTo (Cf s) xs 0 xs):=⟨rfl,fun j=>by rw [if_neg (Nat.not_lt_zero _)]⟩;clear hO1 HC2 HC3;go_wp2_with fail;go_loopw [11] (fun i wr=>∃ (k:Nat) (cs:List Value) (l:List Cpy),k≤xs.length∧i=.int .i64 k∧Hid (wr.ownsRow w.heap.size 48 12 (.slice (some ⟨g,0,none⟩) xs.length q) xs.length cs)∧Hid (EAt vCp Cpy.likes LikC 2 12 lo W0 cs l)∧Hid (MapTo (Cf s) xs k l)∧Below w.heap.size w wr) (fun i _=>xs.length - (intOf i).toNat)
 case atStart=>exact ⟨0,cs,xs,zL,rfl,HO1,HC4,HM0,hB1⟩
 case round =>
  clear HO1 HC4 HM0 hB1 HC1;obtain ⟨k,cs,l,hk,rfl,HO,HP,HM,hB⟩:=hrel;by_cases hlt:k<xs.length
  ·obtain ⟨x,hx⟩:=gX hlt
   have HXX:=iH hx;have hgl:g<wr.heap.size:=(HO.out.lt g rfl).2;have hgb:w.heap.size≤g:=Ui HO;have hcl:cs.length=xs.length*12:=HO.out.1;have hlk:l[k]?=some x:=by rw [HM.out.2 k,if_neg (Nat.lt_irrefl _)];exact hx
   obtain ⟨am,cm,hqc,hsm0⟩:=HP.out k x hlk;have HSM:=iH hsm0;have HRA:Hid (wr.rangeAt g (k*12) (ccL x am cm)):=fun j v hv=>by
    have hj:j<12:=Ae hv;have h1:=HO.out.cellAt (k*12+j) (by omega);rw [hqc j v hv] at h1;exact h1
   clear hx hqc hsm0 hlk;have hza:=Blk.alloc wr xxA 48;have HTS:Hid ((wr.alloc (Obj.cells xxA 48)).there wr.heap.size 0 12):=hza.there;obtain ⟨w4,HW4⟩:∃ w4,Hid (w4=(wr.alloc (Obj.cells xxA 48)).setCells wr.heap.size 0 (ccL x am cm)):=⟨_,rfl⟩;have HK4:Hid (Blk wr.heap.size (ccA x am cm) 48 w4):=by
    show Blk _ _ _ _
    rw [HW4.out];exact hza.setAll (ccA x am cm) rfl
   have hbx:Below wr.heap.size wr w4:=by
    rw [HW4.out];exact Ac nL _ _ _ ((Below.refl _ wr).alloc nL _)
   have hB4:=qt hB hbx;have HBX:=iH hbx;have hs4:wr.heap.size≤w4.heap.size:=hbx.size;clear hza hbx hB;go_upto_region 5 with (first | (refine lr Exq HRA ?_) | (refine Ad rfl 48 _ _ rfl wr.heap.size 0 (ccA x am cm) rfl rfl HTS Bh (by simp [Value.oneCell']) w4 HW4 ?_));clear HRA HTS HW4;go_wp2_with (first | (refine lk Exq HK4 ?_));refine (fA x am cm s pb p _ ((hB4.cell (p:=⟨pb,0,none⟩) (block_lt_of_cell HPB)).trans HPB) ((hB4.cell (p:=⟨p,24,none⟩) (block_lt_of_cell HNN)).trans HNN)).mono ?_;rintro e w5 ⟨rfl,hb5⟩;have hB5:=qt hB4 hb5;have hBr:=HBX.out.trans (hb5.mono hs4);have HO5:=iH (Al HO hBr);have HT5:Hid (w5.there g (k*12) 12):=Ck HO5 (by omega);obtain ⟨y,hy⟩:∃ y,y=Cf s x:=⟨_,rfl⟩;have HSY:Hid (SliceC LikC 2 lo W0 am y.likes):=by
    show SliceC _ _ _ _ _ _
    rw [hy,Yq];exact HSM.out
   have HM6:=iH (HM.out.step HXX);rw [← hy] at HM6 ⊢;clear hy;obtain ⟨w6,HW6⟩:∃ w6,Hid (w6=w5.setCells g (k*12) (vCp y (.slice am y.likes.length cm))):=⟨_,rfl⟩;have HO6:Hid (w6.ownsRow w.heap.size 48 12 (.slice (some ⟨g,0,none⟩) xs.length q) xs.length (Bu cs (k*12) (vCp y (.slice am y.likes.length cm)))):=by
    have h:=Cl (vCp y (.slice am y.likes.length cm)) _ (k*12) _ HO5;rw [← HW6.out] at h;exact h
   have HP6:=iH (HP.out.set (ce:=cm) Be (by rw [hcl,HM.out.1]) (by rw [HM.out.1];exact hlt) HSY);have hB6:Below w.heap.size w w6:=by
    rw [HW6.out];exact Ac hgb _ _ _ hB5
   unfold vCp at HW6;clear hB5 HO5 hB4 HBX hs4 hb5 hBr HK4 HO HP HM HSM HSY HXX;have i0:(0:Int)≤(k:Int):=by omega
   have i1:(k:Int)<(xs.length:Int):=by omega
   go_wp2_with (first | (refine Ad rfl 48 _ _ rfl g (k*12) (ccA y am cm) (by first | rfl | (simp [go_sem];done)) rfl HT5 Bh (by simp [Value.oneCell']) w6 HW6 ?_));go_roundw
   case rel=>exact ⟨k+1,_,_,by omega,by go_num,HO6,HP6,HM6,hB6⟩
   case measure=>simp [intOf];omega
  ·have hke:k=xs.length:=by omega
   subst hke;have hl:=HM.out.done;subst hl;have HO9:Hid (wr.ownsRow w.heap.size 48 12 (.slice (some ⟨g,0,none⟩) xs.length q) (xs.map (Cf s)).length cs):=by
    show World.ownsRow _ _ _ _ _ _ _
    rw [List.length_map];exact HO.out
   go_wp2_with fail;go_ret;exact ⟨_,cs,rfl,HO9,HP,hB⟩
end Go.Proofs.YtihnjndnkgnmaaaGreat
