import Derived.Test.YtihnjndnkgnmaaaGreatJ36
set_option maxHeartbeats 40000000
set_option maxRecDepth 100000
namespace Go.Proofs.YtihnjndnkgnmaaaGreat
open Go.RowKit Go.WideMaps Go.Maps
theorem Gz {α:Type} (l:List α) (k:Nat):(Ce l k).length≤l.length:=by
 unfold Ce;rw [List.length_append,List.length_take,List.length_drop];omega
theorem Ob {α:Type} {l:List α} {k:Nat} {x:α} (h:x∈Ce l k):x∈l:=by
 rcases List.mem_append.1 h with h | h
 ·exact List.mem_of_mem_take h
 ·exact List.mem_of_mem_drop h
theorem lG {p base:Nat} {T:TypeId} {n:Nat} {vv:Value} {k i:Nat} {ds:List Value} {w:World} (h:w.ownsRow base T n vv k ds) (hp:p<base) (u:Value):(w.setCell ⟨p,i,none⟩ u).ownsRow base T n vv k ds:=Cb h hp u
theorem iK {x:Flt} {k:Nat} {c:Cpy} (ha:AscN (cpN x)) (hc:x.copies[k]?=some c) (s:BA):Aq Cpy.name x.copies { c with at_:=s }=Du x.copies k s:=by
 have h1:∀ y∈x.copies.take k,ltN y.name c.name=true:=by
  intro y hy;obtain ⟨j,hj⟩:=List.getElem?_of_mem hy;have hjk:j<k:=by have h9:=Ae hj;rw [List.length_take] at h9;omega
  rw [List.getElem?_take_of_lt hjk] at hj;exact ha.less (Hc (f:=Cpy.name) hj) (Hc (f:=Cpy.name) hc) hjk
 unfold Du;rw [hc];exact Jm (nm:=Cpy.name) (a:={ c with at_:=s }) h1 hc (Tu _) rfl
theorem Lj (l:List Cpy) (k:Nat) (s:BA):(Du l k s).length=l.length:=by
 unfold Du
 split
 ·rename_i c hc
  have:=Ae hc;rw [List.length_append,List.length_take,List.length_cons,List.length_drop];omega
 ·rfl
theorem Vq (x:Flt) (v:Evt) (pf p m1 m2 m3 m4 b1 o1 c1:Nat) (a2:OA) (c2 b3 o3 c3:Nat) (am:OA) (cm:Nat) (al:OA) (cl lo:Nat) (W0 w:World) (H:AcPre x v pf p m1 m2 m3 m4 b1 o1 c1 a2 c2 b3 o3 c3 am cm al cl lo W0 w) (hkd:v.kind=4) :
  Calls Tryz.prog 100 #[.pointer (some ⟨p,0,none⟩)] w fun e w'=>Wk x v pf p a2 c2 am cm al cl lo w e w':=by
 have hl1:x.berths.length≤13:=lT (Bx H.hv).1 (by omega);have hl3:x.copies.length≤61:=lT (Bm H.hv).2.1 (by omega);have HP:=iH H;have HK:=iH H.hK;have hB:=H.hB;have k0:w.cell? ⟨p,0,none⟩=some (.pointer (some ⟨pf,0,none⟩)):=H.hK.cell rfl;have kf:w.cell? ⟨pf,6,none⟩=some (.map (some m3)):=H.hF.1 6 _ rfl;have kn:w.cell? ⟨p,24,none⟩=some (.string v.name):=H.hK.cell rfl;have yl:=Ar (s:=v.name) H.hF.2.2.2.2.1.drew H.zn;have HKD:=iH hkd;clear H hkd;go_enter Tryz.func100,Tryz.ntmps100;go_upto_region 1 with fail
 cases hj:Asq (cpN x) v.name x.copies.length with
 | none =>
  rw [hj] at yl;simp only [Option.isSome_none,Option.getD_none] at yl;have HEV:Hid (evF x v=none):=by
   show evF x v=none
   simp [evF,HKD.out,hj]
  clear hj
  go_region
  go_wp2_with fail;go_ret;exact .inl ⟨HEV,rfl,(Below.refl _ _).drew,HK.out.drew.cell rfl⟩
 | some k =>
  obtain ⟨hkl,_⟩:=Dt hj;rw [hj] at yl;simp only [Option.isSome_some,Option.getD_some] at yl;have HEV:Hid (evF x v=some { x with copies:=Ce x.copies k }):=by
   show evF x v=_
   simp [evF,HKD.out,hj]
  clear hj
  go_region
  replace hB:=hB.drew;have hBp:Below p w w.drew:=(Below.refl p w).drew;replace HK:=iH HK.out.drew;have hpd:p<w.drew.heap.size:=HK.out.lt;clear k0 kf kn yl;generalize w.drew=wn at *;have k4:wn.cell? ⟨p,4,none⟩=some (.slice (some ⟨b3,o3,none⟩) x.copies.length c3):=HK.out.cell rfl;go_wp2_with fail;refine (aX x.copies b3 o3 k c3 lo W0 _ hB HP.out.n3 (by omega) HP.out.hc3 HP.out.hm3 hkl).mono ?_;rintro e w5 ⟨vv,ds,rfl,hO,hE,hb5⟩;obtain ⟨d,q,rfl⟩:=Gj hO;have HO:Hid (w5.ownsRow wn.heap.size 48 12 (.slice d (Ce x.copies k).length q) (Ce x.copies k).length ds):=hO;have HE:Hid (EAt vCp Cpy.likes LikC 2 12 lo W0 ds (Ce x.copies k)):=hE;have hB5:=qt hB hb5;have hBp5:=hBp.trans (hb5.mono (lE hpd));have HK5:=qb HK hb5;clear hO hE hb5 hB hBp HK k4;have hcl:(x.copies.take k++x.copies.drop (k+1)).length=(Ce x.copies k).length:=rfl;rw [hcl];clear hcl;have kz:w5.cell? ⟨p,4,none⟩=some (.slice (some ⟨b3,o3,none⟩) x.copies.length c3):=HK5.out.cell rfl;have fz:=HK5.out.frozen 4;go_upto_region 5 with fail;clear kz fz;have HK6:Hid (Blk p (chV pf x.pack (.slice (some ⟨b1,o1,none⟩) x.berths.length c1) (.slice a2 x.services.length c2) ((.slice d (Ce x.copies k).length q)) v am cm al cl) 76 (w5.setCell ⟨p,4,none⟩ (.slice d (Ce x.copies k).length q))):=HK5.out.set 4 _;have HO6:=iH (Cb (i:=4) HO hpd (.slice d (Ce x.copies k).length q));have hBp6:=Fk (i:=4) hBp5 (.slice d (Ce x.copies k).length q);have hB6:Below W0.heap.size W0 (w5.setCell ⟨p,4,none⟩ (.slice d (Ce x.copies k).length q)):=hB5.setCell (p:=⟨p,4,none⟩) HP.out.hp _;clear HO HK5 hB5 hBp5;generalize w5.setCell ⟨p,4,none⟩ (.slice d (Ce x.copies k).length q)=w6 at *;obtain ⟨d9,q9,e9,hsl⟩:=Hg HO6 (lT HP.out.hlo (lT HP.out.hp (lE hpd))) (HE.out.below LikC.holds hB6 nL) (fun y hy=>HP.out.z3 y (List.mem_cons_of_mem _ (Ob hy))) (by have h9:=Gz x.copies k;unfold maxLen;omega);have e8:d=d9:=by injection e9
  subst e8;have HSL:=iH hsl;clear hsl HO6 HE e9;go_wp2_with fail;go_ret;exact .inr ⟨{ x with copies:=Ce x.copies k },some ⟨b1,o1,none⟩,c1,d,q,HEV,rfl,rfl,rfl,hl1,lT (Gz _ _) hl3,HK6,HP.out.n1.below BrtC.holds hB6 nL,HSL,hBp6⟩
theorem Vv (x:Flt) (v:Evt) (pf p m1 m2 m3 m4 b1 o1 c1:Nat) (a2:OA) (c2 b3 o3 c3:Nat) (am:OA) (cm:Nat) (al:OA) (cl lo:Nat) (W0 w:World) (H:AcPre x v pf p m1 m2 m3 m4 b1 o1 c1 a2 c2 b3 o3 c3 am cm al cl lo W0 w) (hkd:v.kind=2) :
  Calls Tryz.prog 98 #[.pointer (some ⟨p,0,none⟩)] w fun e w'=>Wk x v pf p a2 c2 am cm al cl lo w e w':=by
 have hl1:x.berths.length≤13:=lT (Bx H.hv).1 (by omega);have hl3:x.copies.length≤61:=lT (Bm H.hv).2.1 (by omega);have HP:=iH H;have HK:=iH H.hK;have hB:=H.hB;have hbx:=(Below.refl _ w).alloc nL (Obj.cells #[.pointer (some ⟨p,0,none⟩)] 74);have hpw:p<w.heap.size:=H.hK.lt;have HPB:=iH (Blk.alloc w #[.pointer (some ⟨p,0,none⟩)] 74);replace HK:=iH (HK.out.below hbx hpw);replace hB:=qt hB hbx;have hBp:Below p w (w.alloc (Obj.cells #[.pointer (some ⟨p,0,none⟩)] 74)):=hbx.mono (lE hpw);have HFF:=iH (H.hF.below hbx);have zn:=H.zn;have HKD:=iH hkd;clear H hkd hbx;go_enter Tryz.func98,Tryz.ntmps98;go_upto_region 1 with fail;generalize (w.alloc (Obj.cells #[.pointer (some ⟨p,0,none⟩)] 74))=w1 at *;obtain ⟨pb,hpb⟩:∃ pb,pb=w.heap.size:=⟨_,rfl⟩;rw [← hpb] at HPB ⊢;have hpp:p<pb:=by omega
 have kb:w1.cell? ⟨pb,0,none⟩=some (.pointer (some ⟨p,0,none⟩)):=HPB.out.cell rfl;have k0:w1.cell? ⟨p,0,none⟩=some (.pointer (some ⟨pf,0,none⟩)):=HK.out.cell rfl;have kf:w1.cell? ⟨pf,4,none⟩=some (.map (some m1)):=HFF.out.1 4 _ rfl;have kn:w1.cell? ⟨p,24,none⟩=some (.string v.name):=HK.out.cell rfl;have yl:=Ar (s:=v.name) HFF.out.2.2.1.drew zn;clear hpb hpw zn HFF
 cases hj:Asq (brN x) v.name x.berths.length with
 | none =>
  rw [hj] at yl;simp only [Option.isSome_none,Option.getD_none] at yl;have HEV:Hid (evF x v=none):=by
   show evF x v=none
   simp [evF,HKD.out,hj]
  clear hj
  go_region
  go_wp2_with fail;go_ret;exact .inl ⟨HEV,rfl,hBp.drew,HK.out.drew.cell rfl⟩
 | some k =>
  obtain ⟨hkl,_⟩:=Dt hj;rw [hj] at yl;simp only [Option.isSome_some,Option.getD_some] at yl;have HEV:Hid (evF x v=some { x with berths:=Ce x.berths k,copies:=x.copies.map (Cf v.name) }):=by
   show evF x v=_
   simp [evF,HKD.out,hj]
  clear hj
  go_region
  replace hB:=hB.drew;replace hBp:=hBp.drew;replace HK:=iH HK.out.drew;replace HPB:=iH HPB.out.drew;have hpd:p<w1.drew.heap.size:=HK.out.lt;clear kb k0 kf kn yl;generalize w1.drew=wn at *;go_upto_region 4 with fail;refine Av (S:=fun wy=>Blk p (chV pf x.pack (.slice (some ⟨b1,o1,none⟩) x.berths.length c1) (.slice a2 x.services.length c2) (.slice (some ⟨b3,o3,none⟩) x.copies.length c3) v am cm al cl) 76 wy∧wy.cell? ⟨pb,0,none⟩=some (.pointer (some ⟨p,0,none⟩))) 11 (by kernel_rfl) ⟨HK.out.drew,HPB.out.drew.cell rfl⟩ (fun hS=>?_);replace hB:=hB.drew;replace hBp:=hBp.drew;replace HK:=iH HK.out.drew;replace HPB:=iH HPB.out.drew;replace hpd:p<wn.drew.heap.size:=HK.out.lt;generalize wn.drew=wm at *;refine tv 0 ⟨some 23,_,_,_,_,none⟩ (.pointer (some ⟨p,0,none⟩)) rfl (by rfl) ?_ hS ?_
  ·intro wy hy
   have h0:=hy.2;clear hy;go_simp
  simp only [pX];refine tv 1 ⟨some 24,_,_,_,_,none⟩ (.pointer (some ⟨p,0,none⟩)) rfl (by rfl) ?_ hS ?_
  ·intro wy hy
   have h0:=hy.2;clear hy;go_simp
  simp only [pX];refine tv 2 ⟨some 25,_,_,_,_,none⟩ (.pointer (some ⟨p,0,none⟩)) rfl (by rfl) ?_ hS ?_
  ·intro wy hy
   clear hy;go_simp
  simp only [pX];refine tv 3 ⟨some 26,_,_,_,_,none⟩ (.pointer (some ⟨p,1,none⟩)) rfl (by rfl) ?_ hS ?_
  ·intro wy hy
   clear hy;go_simp
  simp only [pX];refine tv 4 ⟨some 27,_,_,_,_,none⟩ (.pointer (some ⟨p,2,none⟩)) rfl (by rfl) ?_ hS ?_
  ·intro wy hy
   clear hy;go_simp
  simp only [pX];refine tv 5 ⟨some 28,_,_,_,_,none⟩ (.slice (some ⟨b1,o1,none⟩) x.berths.length c1) rfl (by rfl) ?_ hS ?_
  ·intro wy hy
   have h0:wy.cell? ⟨p,2,none⟩=some (.slice (some ⟨b1,o1,none⟩) x.berths.length c1):=Blk.cell hy.1 rfl;clear hy;go_simp
  simp only [pX];refine tv 6 ⟨some 29,_,_,_,_,none⟩ (.int .i64 k) rfl (by rfl) ?_ hS ?_
  ·intro wy hy
   clear hy;go_simp
  simp only [pX];refine ru1 7 ⟨some 30,_,_,_,_,none⟩ rfl (fun KK hKK=>?_);go_simp;refine (cH x.berths b1 o1 k c1 lo W0 _ hB HP.out.n1 (by omega) HP.out.hc1 HP.out.hm1 hkl).mono ?_;rintro e w5 ⟨vv,ds,rfl,hO,hE,hb5⟩;obtain ⟨d,q,rfl⟩:=Gj hO;have HO:Hid (w5.ownsRow wm.heap.size 45 6 (.slice d (Ce x.berths k).length q) (Ce x.berths k).length ds):=hO;have HE:Hid (EAt vBr Brt.marks StrC 1 6 lo W0 ds (Ce x.berths k)):=hE;have hB5:=qt hB hb5;have hBp5:=hBp.trans (hb5.mono (lE hpd));have HK5:=qb HK hb5;have HPB5:=qb HPB hb5;refine hKK.out _ _ ⟨HK5,HPB5.out.cell rfl⟩ (fun hS=>?_);clear hKK KK hO hE hb5 hB hBp HK HPB;have hcl:(x.berths.take k++x.berths.drop (k+1)).length=(Ce x.berths k).length:=rfl;rw [hcl];clear hcl;refine Cj (i:=8) (oi:=⟨some 31,_,_,_,_,none⟩) (v:=.pointer (some ⟨p,0,none⟩)) rfl (by kernel_rfl) (Or.inl ⟨by rfl,?_⟩) hS ?_
  ·intro wy hy
   clear hy;go_simp
  simp only [pX];refine Cj (i:=9) (oi:=⟨some 32,_,_,_,_,none⟩) (v:=.pointer (some ⟨p,1,none⟩)) rfl (by kernel_rfl) (Or.inl ⟨by rfl,?_⟩) hS ?_
  ·intro wy hy
   clear hy;go_simp
  simp only [pX];refine tv 10 ⟨some 33,_,_,_,_,none⟩ (.pointer (some ⟨p,2,none⟩)) rfl (by rfl) ?_ hS ?_
  ·intro wy hy
   clear hy;go_simp
  simp only [pX];have kz:w5.cell? ⟨p,2,none⟩=some (.slice (some ⟨b1,o1,none⟩) x.berths.length c1):=HK5.out.cell rfl;have fz:=HK5.out.frozen 2;refine Bb (rs:=[11]) (by kernel_rfl) (by simp) (AllReadyU.last (o:=⟨none,_,_,_,_,none⟩) rfl (fun KK hKK=>?_));go_simp;clear kz fz;have HK6:Hid (Blk p (chV pf x.pack ((.slice d (Ce x.berths k).length q)) (.slice a2 x.services.length c2) (.slice (some ⟨b3,o3,none⟩) x.copies.length c3) v am cm al cl) 76 (w5.setCell ⟨p,2,none⟩ (.slice d (Ce x.berths k).length q))):=HK5.out.set 2 _;have HO6:=iH (Cb (i:=2) HO hpd (.slice d (Ce x.berths k).length q));have hBp6:=Fk (i:=2) hBp5 (.slice d (Ce x.berths k).length q);have hB6:Below W0.heap.size W0 (w5.setCell ⟨p,2,none⟩ (.slice d (Ce x.berths k).length q)):=hB5.setCell (p:=⟨p,2,none⟩) HP.out.hp _;have HPB6:=iH (HPB5.out.other (a:=⟨p,2,none⟩) (show pb≠p by omega) (.slice d (Ce x.berths k).length q));refine hKK.out _ _ (Bl (by kernel_rfl) ?_ _);clear hKK KK hS HO HK5 HPB5 hB5 hBp5;generalize w5.setCell ⟨p,2,none⟩ (.slice d (Ce x.berths k).length q)=w6 at *;go_upto_region 5 with fail;refine Av (S:=fun wy=>Blk p (chV pf x.pack ((.slice d (Ce x.berths k).length q)) (.slice a2 x.services.length c2) (.slice (some ⟨b3,o3,none⟩) x.copies.length c3) v am cm al cl) 76 wy∧wy.cell? ⟨pb,0,none⟩=some (.pointer (some ⟨p,0,none⟩))) 11 (by kernel_rfl) ⟨HK6.out.drew,HPB6.out.drew.cell rfl⟩ (fun hS=>?_);have HK7:=iH HK6.out.drew;have HPB7:=iH HPB6.out.drew;have HO7:=iH HO6.out.drew;have hB7:=hB6.drew;have hBp7:=hBp6.drew;have hpd7:p<w6.drew.heap.size:=HK7.out.lt;clear HK6 HPB6 HO6 hB6 hBp6;generalize w6.drew=w7 at *;refine tv 0 ⟨some 34,_,_,_,_,none⟩ (.pointer (some ⟨p,0,none⟩)) rfl (by rfl) ?_ hS ?_
  ·intro wy hy
   have h0:=hy.2;clear hy;go_simp
  simp only [pX];refine tv 1 ⟨some 35,_,_,_,_,none⟩ (.pointer (some ⟨p,0,none⟩)) rfl (by rfl) ?_ hS ?_
  ·intro wy hy
   have h0:=hy.2;clear hy;go_simp
  simp only [pX];refine tv 2 ⟨some 36,_,_,_,_,none⟩ (.pointer (some ⟨p,0,none⟩)) rfl (by rfl) ?_ hS ?_
  ·intro wy hy
   clear hy;go_simp
  simp only [pX];refine tv 3 ⟨some 37,_,_,_,_,none⟩ (.pointer (some ⟨p,1,none⟩)) rfl (by rfl) ?_ hS ?_
  ·intro wy hy
   clear hy;go_simp
  simp only [pX];refine tv 4 ⟨some 38,_,_,_,_,none⟩ (.pointer (some ⟨p,4,none⟩)) rfl (by rfl) ?_ hS ?_
  ·intro wy hy
   clear hy;go_simp
  simp only [pX];refine tv 5 ⟨some 39,_,_,_,_,none⟩ (.slice (some ⟨b3,o3,none⟩) x.copies.length c3) rfl (by rfl) ?_ hS ?_
  ·intro wy hy
   have h0:wy.cell? ⟨p,4,none⟩=some (.slice (some ⟨b3,o3,none⟩) x.copies.length c3):=Blk.cell hy.1 rfl;clear hy;go_simp
  simp only [pX];refine tv 6 ⟨some 40,_,_,_,_,none⟩ (.func (.func 122) #[] #[.pointer (some ⟨pb,0,none⟩)]) rfl (by rfl) ?_ hS ?_
  ·intro wy hy
   clear hy;go_simp
  simp only [pX];refine ru1 7 ⟨some 41,_,_,_,_,none⟩ rfl (fun KK hKK=>?_);go_simp;refine (Uf x.copies v.name b3 o3 c3 lo pb p W0 _ hB7 HP.out.n3 (by omega) (HPB7.out.cell rfl) (HK7.out.cell rfl)).mono ?_;rintro e w8 ⟨vv,es,rfl,hO,hE,hb8⟩;obtain ⟨d2,q2,rfl⟩:=Gj hO;rw [List.length_map] at hO ⊢;have HOc:=iH hO;have HEc:=iH hE;have hB8:=qt hB7 hb8;have hBp8:=hBp7.trans (hb8.mono (lE hpd7));have HK8:=qb HK7 hb8;have HPB8:=qb HPB7 hb8;have HO8:=iH (Al HO7 hb8);refine hKK.out _ _ ⟨HK8,HPB8.out.cell rfl⟩ (fun hS=>?_);clear hKK KK hO hE hb8 hB7 hBp7 HK7 HPB7 HO7;refine Cj (i:=8) (oi:=⟨some 42,_,_,_,_,none⟩) (v:=.pointer (some ⟨p,0,none⟩)) rfl (by kernel_rfl) (Or.inl ⟨by rfl,?_⟩) hS ?_
  ·intro wy hy
   clear hy;go_simp
  simp only [pX];refine Cj (i:=9) (oi:=⟨some 43,_,_,_,_,none⟩) (v:=.pointer (some ⟨p,1,none⟩)) rfl (by kernel_rfl) (Or.inl ⟨by rfl,?_⟩) hS ?_
  ·intro wy hy
   clear hy;go_simp
  simp only [pX];refine tv 10 ⟨some 44,_,_,_,_,none⟩ (.pointer (some ⟨p,4,none⟩)) rfl (by rfl) ?_ hS ?_
  ·intro wy hy
   clear hy;go_simp
  simp only [pX];have kz:w8.cell? ⟨p,4,none⟩=some (.slice (some ⟨b3,o3,none⟩) x.copies.length c3):=HK8.out.cell rfl;have fz:=HK8.out.frozen 4;refine Bb (rs:=[11]) (by kernel_rfl) (by simp) (AllReadyU.last (o:=⟨none,_,_,_,_,none⟩) rfl (fun KK hKK=>?_));go_simp;clear kz fz;have HK9:Hid (Blk p (chV pf x.pack ((.slice d (Ce x.berths k).length q)) (.slice a2 x.services.length c2) ((.slice d2 x.copies.length q2)) v am cm al cl) 76 (w8.setCell ⟨p,4,none⟩ (.slice d2 x.copies.length q2))):=HK8.out.set 4 _;have HO9:=iH (Cb (i:=4) HO8 hpd (.slice d2 x.copies.length q2));have HOc9:=iH (Cb (i:=4) HOc hpd7 (.slice d2 x.copies.length q2));have hBp9:=Fk (i:=4) hBp8 (.slice d2 x.copies.length q2);have hB9:Below W0.heap.size W0 (w8.setCell ⟨p,4,none⟩ (.slice d2 x.copies.length q2)):=hB8.setCell (p:=⟨p,4,none⟩) HP.out.hp _;refine hKK.out _ _ (Bl (by kernel_rfl) ?_ _);clear hKK KK hS HO8 HOc HK8 HPB8 hB8 hBp8;generalize w8.setCell ⟨p,4,none⟩ (.slice d2 x.copies.length q2)=w9 at *;obtain ⟨d9,q9,e9,hsl⟩:=Kk HO9 (lT HP.out.hlo (lT HP.out.hp (lE hpd))) (HE.out.below StrC.holds hB9 nL) (fun y hy=>HP.out.z1 y (List.mem_cons_of_mem _ (Ob hy))) (by have h9:=Gz x.berths k;unfold maxLen;omega);have e8:d=d9:=by injection e9
  subst e8;have HSL:=iH hsl;clear hsl HO9 HE e9;obtain ⟨d9,q9,e9,hsl⟩:=Hg (l:=x.copies.map (Cf v.name)) (by rw [List.length_map];exact HOc9.out) (lT HP.out.hlo (lT HP.out.hp (lE hpd7))) (HEc.out.below LikC.holds hB9 nL) (aM (fun y hy=>HP.out.z3 y (List.mem_cons_of_mem _ hy))) (by rw [List.length_map];unfold maxLen;omega);have e8:d2=d9:=by injection e9
  subst e8;have HSC:=iH hsl;clear hsl HOc9 HEc e9;go_wp2_with fail;go_ret;exact .inr ⟨{ x with berths:=Ce x.berths k,copies:=x.copies.map (Cf v.name) },d,q,d2,q2,HEV,rfl,rfl,rfl,lT (Gz _ _) hl1,(by show (x.copies.map (Cf v.name)).length≤61;rw [List.length_map];exact hl3),(by have h:=HK9.out;rw [show x.copies.length=(x.copies.map (Cf v.name)).length from (List.length_map _).symm] at h;exact h),HSL,HSC,hBp9⟩
end Go.Proofs.YtihnjndnkgnmaaaGreat
namespace Go.Proofs.YtihnjndnkgnmaaaGreat
open Go.RowKit
theorem Bn {P:Program} {fn:Func} {p t:Tmp} {ty:TypeId} (h:fn.results=#[.cell p ty,.tmp t]) (tmps:Array Value) (w:World) (g:Nat) (cs:List Value) (d:TypeDesc)
  (hp:tmps.getD p undef=.pointer (some ⟨g,0,none⟩)) (hc:w.rangeAt g 0 cs) (hu:P.underlying ty=some d) (hd:d.isRow=true) (hi:(P.info? ty).map (·.size)=some cs.length) :
  (results fn tmps).run P w=.ok (.tuple #[.agg cs.toArray,tmps.getD t undef]) w:=by
 have hp':tmps[p]?.getD undef=.pointer (some ⟨g,0,none⟩):=by simpa using hp
 simp [results,h,hp',asAddr,run_loadVar_mid w g 0 ty cs d hc hu hd hi]
structure EvW (x:Flt) (v:Evt) (am:OA) (cm:Nat) (al:OA) (cl gx eb rb:Nat) (vb vs vc:Value) (w w4 wn:World):Prop where
 hx:Blk gx #[.bool x.pack,vb,vs,vc] 41 wn
 he:Blk eb (eeA v am cm al cl) 50 wn
 hr:Blk rb zzA 41 wn
 hb:Below w.heap.size w wn
 h4:Below gx w4 wn
 i1:w.heap.size≤eb
 i2:eb<rb
 i3:rb<gx
 i4:gx≤w4.heap.size
section
variable {x:Flt} {v:Evt} {am:OA} {cm:Nat} {al:OA} {cl gx eb rb:Nat} {vb vs vc:Value} {w w4 wn wm:World}
theorem EvW.below (h:EvW x v am cm al cl gx eb rb vb vs vc w w4 wn) (hb:Below wn.heap.size wn wm):EvW x v am cm al cl gx eb rb vb vs vc w w4 wm :=
 ⟨h.hx.below hb h.hx.lt,h.he.below hb h.he.lt,h.hr.below hb h.hr.lt,h.hb.trans (hb.mono h.hb.size),h.h4.trans (hb.mono (lE h.hx.lt)),h.i1,h.i2,h.i3,h.i4⟩
theorem EvW.drew (h:EvW x v am cm al cl gx eb rb vb vs vc w w4 wn):EvW x v am cm al cl gx eb rb vb vs vc w w4 wn.drew:=h.below (Below.refl _ _).drew
theorem EvW.grown {row:Option Nat} (h:EvW x v am cm al cl gx eb rb vb vs vc w w4 wn) (hg:wn.grownBy wm row) (hr:∀ r,row=some r→gx<r):EvW x v am cm al cl gx eb rb vb vs vc w w4 wm:=by
 have far:∀ b,b≤gx→some b≠row:=fun b hb e=>by have:=hr b e.symm;omega
 have k1:=h.i1;have k2:=h.i2;have k3:=h.i3;exact ⟨h.hx.grown hg (far _ nL),h.he.grown hg (far _ (by omega)),h.hr.grown hg (far _ (by omega)),h.hb.grown hg h.hb.size (fun r e=>by have:=hr r e;omega),h.h4.grown hg (lE h.hx.lt) (fun r e=>lE (hr r e)),h.i1,h.i2,h.i3,h.i4⟩
theorem EvW.set1 (h:EvW x v am cm al cl gx eb rb vb vs vc w w4 wn) (u:Value):EvW x v am cm al cl gx eb rb u vs vc w w4 (wn.setCell ⟨gx,1,none⟩ u):=by
 have k1:=h.i1;have k2:=h.i2;have k3:=h.i3;exact ⟨h.hx.set 1 u,h.he.other (a:=⟨gx,1,none⟩) (show eb≠gx by omega) _,h.hr.other (a:=⟨gx,1,none⟩) (show rb≠gx by omega) _,h.hb.setCell (p:=⟨gx,1,none⟩) (show w.heap.size≤gx by omega) _,h.h4.setCell (p:=⟨gx,1,none⟩) nL _,h.i1,h.i2,h.i3,h.i4⟩
theorem EvW.set3 (h:EvW x v am cm al cl gx eb rb vb vs vc w w4 wn) (u:Value):EvW x v am cm al cl gx eb rb vb vs u w w4 (wn.setCell ⟨gx,3,none⟩ u):=by
 have k1:=h.i1;have k2:=h.i2;have k3:=h.i3;exact ⟨h.hx.set 3 u,h.he.other (a:=⟨gx,3,none⟩) (show eb≠gx by omega) _,h.hr.other (a:=⟨gx,3,none⟩) (show rb≠gx by omega) _,h.hb.setCell (p:=⟨gx,3,none⟩) (show w.heap.size≤gx by omega) _,h.h4.setCell (p:=⟨gx,3,none⟩) nL _,h.i1,h.i2,h.i3,h.i4⟩
end
theorem Au {P:Program} {op:Oper} {a:Act} {w:World} {K:Act→World→Prop} {Q:Exit→Act→World→Prop} (s x:Operand) (t:TypeId)
  (ho:op.op=.call { callee:=.builtin .append,args:=#[s,x],argTypes:=#[t,t] })
  (base:Nat) (e:TypeId) (i:TypeInfo) (z:Value) (size bytes:Nat) (ht:P.underlying t=some (.slice e)) (hi:P.info? e=some i) (hz:i.zero=some z)
  (hsize:i.size=size) (hby:i.bytes=bytes) (hzs:z.cells.size=size) (hsz:0<size)
  (v:Value) (n:Nat) (xs:List Value) (hs:a.eval s=v) (hown:w.ownsRow base e size v n xs)
  (ao:OA) (m c:Nat) (news:List Value) (hx:a.eval x=.slice ao m c) (hno:ao=none→m=0) (hl:news.length=m*size) (hnews:∀ ad,ao=some ad→∀ j u,news[j]?=some u→w.cell? (ad.add j)=some u) (h1:∀ u∈news,u.oneCell'=true)
  (h63:n+m≤maxLen) (hbytes:(n+m)*bytes≤140737488355328) (hbase:base≤w.heap.size)
  (h:∀ v' w',w'.ownsRow base e size v' (n+m) (xs++news)→w.grownBy w' v.ownBlock→(v'=.slice none 0 0↔v=.slice none 0 0∧m=0)→(v'.ownBlock=v.ownBlock∨v'.ownBlock=some w.heap.size)→K (a.put op.dst v') w'):op.wp P a w K Q:=by
 cases ao with
 | some ad=>exact Cp s x t ho base e i z size bytes ht hi hz hsize hby hzs hsz v n xs hs hown ad m c news hx hl (hnews ad rfl) h1 h63 hbytes hbase h
 | none =>
  obtain rfl:=hno rfl;have hn:news=[]:=List.length_eq_zero_iff.1 (by omega);subst hn;have hrun:=Hu (P:=P) (w:=w) base t op.type e i size c ht hi v n xs hown;unfold Oper.wp;simp [execOp,ho,resolve,invoke,builtin,hs,hx,hrun,Result.andThen];exact h v w (by simpa using hown) ⟨rfl,rfl,rfl,Nat.le_refl _,fun _ _ _=>rfl⟩ (by simp) (.inl rfl)
structure EvK (x:Flt) (v:Evt) (am:OA) (cm:Nat) (al:OA) (cl gx eb rb bs H g2:Nat) (vb vs vc:Value) (w wB wn:World):Prop where
 hx:Blk gx #[.bool x.pack,vb,vs,vc] 41 wn
 he:Blk eb (eeA v am cm al cl) 50 wn
 hr:Blk rb zzA 41 wn
 hb:Below w.heap.size w wn
 kb:Keeps H wB wn
 sv:SliceC SvcC 2 w.heap.size wn (some ⟨g2,0,none⟩) x.services
 i1:w.heap.size≤eb
 i2:eb<rb
 i3:rb<bs
 i5:wB.heap.size≤bs
 i6:g2<bs
section
variable {x:Flt} {v:Evt} {am:OA} {cm:Nat} {al:OA} {cl gx eb rb bs H g2:Nat} {vb vs vc:Value} {w wB wn wm:World}
theorem EvK.below (h:EvK x v am cm al cl gx eb rb bs H g2 vb vs vc w wB wn) (hb:Below wn.heap.size wn wm):EvK x v am cm al cl gx eb rb bs H g2 vb vs vc w wB wm :=
 ⟨h.hx.below hb h.hx.lt,h.he.below hb h.he.lt,h.hr.below hb h.hr.lt,h.hb.trans (hb.mono h.hb.size),h.kb.trans (Keeps.of_below hb nL _),h.sv.below SvcC.holds hb nL,h.i1,h.i2,h.i3,h.i5,h.i6⟩
theorem EvK.store (h:EvK x v am cm al cl gx eb rb bs H g2 vb vs vc w wB wn) {g:Nat} (h1:bs≤g) (h2:g<gx) (i:Nat) (u:Value):EvK x v am cm al cl gx eb rb bs H g2 vb vs vc w wB (wn.setCell ⟨g,i,none⟩ u):=by
 have k1:=h.i1;have k2:=h.i2;have k3:=h.i3;have k5:=h.i5;have k6:=h.i6;exact ⟨h.hx.other (a:=⟨g,i,none⟩) (show gx≠g by omega) _,h.he.other (a:=⟨g,i,none⟩) (show eb≠g by omega) _,h.hr.other (a:=⟨g,i,none⟩) (show rb≠g by omega) _,h.hb.setCell (p:=⟨g,i,none⟩) (show w.heap.size≤g by omega) _,h.kb.grownD (Bd _ _ _) (fun r e=>by cases e;exact .inl (show wB.heap.size≤g by omega)),Ai SvcC.flat h.sv (Bd _ _ _) (fun b o e _ e2=>by cases e;have e3:g2=g:=Option.some.inj e2;omega),h.i1,h.i2,h.i3,h.i5,h.i6⟩
end
def Om (x:Flt) (v:Evt) (w:World) (e:Ending) (w':World):Prop :=
 (evF x v=none∧∃ u0 u1 u2 u3,e=.returned (.tuple #[.agg #[u0,u1,u2,u3],.bool false])∧#[u0,u1,u2,u3].all (·.oneCell')=true∧Below w.heap.size w w')∨∃ (y:Flt) (d1:OA) (q1:Nat) (d2:OA) (q2:Nat) (d3:OA) (q3:Nat),evF x v=some y∧e=.returned (.tuple #[.agg (ffA y d1 q1 d2 q2 d3 q3),.bool true])∧SliceC BrtC 6 w.heap.size w' d1 y.berths∧SliceC SvcC 2 w.heap.size w' d2 y.services∧SliceC CpyC 12 w.heap.size w' d3 y.copies∧Below w.heap.size w w'
theorem Ug {bs g q k:Nat} {w:World} {l:List Cpy} {c:Cpy} (h:Kp bs w (.slice (some ⟨g,0,none⟩) l.length q) l) (hk:l[k]?=some c) (s:BA):Kp bs (w.setCell ⟨g,k*12+11,none⟩ (.string s)) (.slice (some ⟨g,0,none⟩) (l.set k { c with at_:=s }).length q) (l.set k { c with at_:=s }):=by
 obtain ⟨cs,h1,h2⟩:=h;have hkl:=Ae hk;have hcl:cs.length=l.length*12:=h1.1;have ho:(w.setCell ⟨g,k*12+11,none⟩ (.string s)).ownsRow bs 48 12 (.slice (some ⟨g,0,none⟩) l.length q) l.length (Bu cs (k*12+11) [.string s]):=Cl [.string s] _ (k*12+11) _ h1;refine ⟨Bu cs (k*12+11) [.string s],by rw [List.length_set];exact ho,fun j y hj=>?_⟩;by_cases e:j=k
 ·subst e
  rw [List.getElem?_set_self hkl] at hj;cases hj
  obtain ⟨ae,ce,q1,q2,q3⟩:=h2 j c hk;refine ⟨ae,ce,fun i u hu=>?_,Ai LikC.flat q2 (Bd _ _ _) (fun b o e hn e2=>(q3 b o e hn).1 e2),fun b o e hn=>⟨(q3 b o e hn).1,by have:=(q3 b o e hn).2;simpa [World.setCell] using this⟩⟩;have hi:i<12:=by have:=Ae hu;rwa [Be] at this
  by_cases e11:i=11
  ·subst e11
   have:=Hm [.string s] cs (j*12+11) 0 (by simp;omega) (by simp);rw [Nat.add_zero] at this;rw [this];exact hu
  ·rw [Er _ _ _ _ (by simp;omega)]
   refine q1 i u ?_;rcases (by omega:i=0∨i=1∨i=2∨i=3∨i=4∨i=5∨i=6∨i=7∨i=8∨i=9∨i=10) with rfl | rfl | rfl | rfl | rfl | rfl | rfl | rfl | rfl | rfl | rfl <;> exact hu
 ·rw [List.getElem?_set_ne (fun h=>e h.symm)] at hj
  obtain ⟨ae,ce,q1,q2,q3⟩:=h2 j y hj;refine ⟨ae,ce,fun i u hu=>?_,Ai LikC.flat q2 (Bd _ _ _) (fun b o e hn e2=>(q3 b o e hn).1 e2),fun b o e hn=>⟨(q3 b o e hn).1,by have:=(q3 b o e hn).2;simpa [World.setCell] using this⟩⟩;have hi:i<12:=by have:=Ae hu;rwa [Be] at this
  rw [Er _ _ _ _ (by simp;omega)];exact q1 i u hu
theorem EAt.keep {α β:Type} {V:α→Value→List Value} {sub:α→List β} {C:Db β} {m n lo:Nat} {w w':World} {ds:List Value} {l:List α} (hC:Dy C m) (h:EAt V sub C m n lo w ds l) (k:Keeps lo w w'):EAt V sub C m n lo w' ds l:=by
 intro j x hj;obtain ⟨ae,ce,q1,q2⟩:=h j x hj;exact ⟨ae,ce,q1,q2.keep hC k nL⟩
theorem EAt.lower {α β:Type} {V:α→Value→List Value} {sub:α→List β} {C:Db β} {m n lo lo':Nat} {w:World} {ds:List Value} {l:List α} (hC:Dy C m) (h:EAt V sub C m n lo w ds l) (k:lo'≤lo):EAt V sub C m n lo' w ds l:=by
 intro j x hj;obtain ⟨ae,ce,q1,q2⟩:=h j x hj;exact ⟨ae,ce,q1,q2.keep hC (Keeps.refl _ _) k⟩
theorem Doq {p base:Nat} {T:TypeId} {n:Nat} {vv:Value} {k o:Nat} {ds:List Value} {w:World} (h:w.ownsRow base T n vv k ds) (hp:p<base) (vs:List Value):(w.setCells p o vs).ownsRow base T n vv k ds:=by
 refine h.kept (Ao vs o w) ?_
 cases e:vv.ownBlock with
 | none=>exact .inl rfl
 | some b =>
  refine .inr (fun e2=>?_);have h9:=(h.lt b e).1;have e3:b=p:=Option.some.inj e2;omega
theorem Keeps.up {a b:Nat} {w w':World} (h:Keeps a w w') (hab:a≤b):Keeps b w w':=⟨h.1,fun x o h1 h2=>h.2 x o (lT hab h1) h2⟩
theorem Zv {l:List Cpy} {k:Nat} {c:Cpy} (h:l[k]?=some c) (s:BA):Du l k s=l.set k { c with at_:=s }:=by
 unfold Du;rw [h];exact (List.set_eq_take_append_cons_drop ..).trans (by rw [if_pos (Ae h)]) |>.symm
theorem eI (x:Flt) (v:Evt) (a1:OA) (c1 b2 o2 c2:Nat) (a3:OA) (c3:Nat) (am:OA) (cm:Nat) (al:OA) (cl lo:Nat) (w:World) (n1:SliceC BrtC 6 lo w a1 x.berths) (n2:SliceC SvcC 2 lo w (some ⟨b2,o2,none⟩) x.services) (n3:SliceC CpyC 12 lo w a3 x.copies) (nm:SliceC StrC 1 lo w am v.berth.marks) (nl:SliceC LikC 2 lo w al v.copy.likes) (hvx:Bj x=true) (hlb:x.berths.length≤12) (hls:x.services.length≤30) (hlc:x.copies.length≤60) (hmk:∀ y∈x.berths,y.marks.length≤1048576) (hlk:∀ y∈x.copies,y.likes.length≤1048576) (hvm:v.berth.marks.length≤1048576) (hvl:v.copy.likes.length≤1048576) (z1:SzB [v.berth]) (z3:SzC [v.copy]) (za:v.at_.size≤maxLen) (f1:Hid (¬ v.kind=1)) (f2:Hid (¬ v.kind=2)) (f3:Hid (¬ v.kind=3)) (f4:Hid (¬ v.kind=4)) (f5:Hid (¬ v.kind=5)) :
  Calls Tryz.prog 21 #[.agg (ffA x a1 c1 (some ⟨b2,o2,none⟩) c2 a3 c3),.agg (eeA v am cm al cl)] w fun e w'=>Om x v w e w':=by
 have HZB:=iH (SzB.of n1);have HZC:=iH (SzC.of n3);have HZ1:=iH z1;have HZ3:=iH z3;have HZA:=iH za;have N1:=iH n1;have N2:=iH n2;have N3:=iH n3;have NM:=iH nm;have NL:=iH nl;have HV:=iH hvx;have HAB:=iH (Bx hvx).2.1;have HAC:=iH (Bm hvx).2.2.2.1;have HMK:=iH hmk;have HLK:=iH hlk;clear n1 n2 n3 nm nl hvx hmk hlk z1 z3 za;have h1:=Blk.alloc w (ffA x a1 c1 (some ⟨b2,o2,none⟩) c2 a3 c3) 41;have h2:Blk (w.heap.size+1) (eeA v am cm al cl) 50 ((w.alloc (Obj.cells (ffA x a1 c1 (some ⟨b2,o2,none⟩) c2 a3 c3) 41)).alloc (Obj.cells (eeA v am cm al cl) 50)):=by
  have:=Blk.alloc (w.alloc (Obj.cells (ffA x a1 c1 (some ⟨b2,o2,none⟩) c2 a3 c3) 41)) (eeA v am cm al cl) 50;simpa using this
 have HR3:Hid (Blk (w.heap.size+1+1) zzA 41 (((w.alloc (Obj.cells (ffA x a1 c1 (some ⟨b2,o2,none⟩) c2 a3 c3) 41)).alloc (Obj.cells (eeA v am cm al cl) 50)).alloc (Obj.cells zzA 41))):=by
  have:=Blk.alloc ((w.alloc (Obj.cells (ffA x a1 c1 (some ⟨b2,o2,none⟩) c2 a3 c3) 41)).alloc (Obj.cells (eeA v am cm al cl) 50)) zzA 41;show Blk _ _ _ _
  simpa using this
 have HF3:Hid (Blk w.heap.size (ffA x a1 c1 (some ⟨b2,o2,none⟩) c2 a3 c3) 41 (((w.alloc (Obj.cells (ffA x a1 c1 (some ⟨b2,o2,none⟩) c2 a3 c3) 41)).alloc (Obj.cells (eeA v am cm al cl) 50)).alloc (Obj.cells zzA 41))):=(h1.below ((Below.refl _ _).alloc nL _) h1.lt).below ((Below.refl _ _).alloc nL _) (by simp;omega);have HE3:=iH (h2.below ((Below.refl _ _).alloc nL (Obj.cells zzA 41)) h2.lt);have hB3:Below w.heap.size w (((w.alloc (Obj.cells (ffA x a1 c1 (some ⟨b2,o2,none⟩) c2 a3 c3) 41)).alloc (Obj.cells (eeA v am cm al cl) 50)).alloc (Obj.cells zzA 41)):=by go_grown
 clear h1 h2;go_enter Tryz.func21,Tryz.ntmps21;go_upto_region 1 with fail;generalize (((w.alloc (Obj.cells (ffA x a1 c1 (some ⟨b2,o2,none⟩) c2 a3 c3) 41)).alloc (Obj.cells (eeA v am cm al cl) 50)).alloc (Obj.cells zzA 41))=w3 at *;go_wp2_with (refine lk Bw HF3 ?_);refine (Ey x a1 c1 b2 o2 c2 a3 c3 lo _ (N1.out.below BrtC.holds hB3 nL) (N2.out.below SvcC.holds hB3 nL) (N3.out.below CpyC.holds hB3 nL) (by omega) (by omega) (by omega) HMK HLK).mono ?_;rintro e w4 ⟨d1,q1,g2,q2,d3,q3,bs,H,wB,rfl,hsf,hs1,hH1,hH2,hwB,hkB,hs2,hg2,hoc,hb4⟩;have HSF:=iH hsf;have HS1:=iH hs1;have HS2:=iH hs2;have HOC:=iH hoc;have hHw:w.heap.size≤w3.heap.size:=hB3.size;have HRL:w.heap.size+1+1<w3.heap.size:=HR3.out.lt;have HKB:=iH hkB;have HWB:=iH (And.intro hwB hg2);have hB4:=qt hB3 hb4;have hW34:w3.heap.size≤w4.heap.size:=hb4.size;have HE4:=HE3.out.below hb4 HE3.out.lt;have HR4:=HR3.out.below hb4 HR3.out.lt;have hr4:=HR4.lt;have hza:=Blk.alloc w4 zzA 41;have HTS:Hid ((w4.alloc (Obj.cells zzA 41)).there w4.heap.size 0 4):=hza.there;obtain ⟨w5,HW5⟩:∃ w5,Hid (w5=(w4.alloc (Obj.cells zzA 41)).setCells w4.heap.size 0 (ffL x d1 q1 (some ⟨g2,0,none⟩) q2 d3 q3)):=⟨_,rfl⟩;have hbx:Below w4.heap.size w4 w5:=by
  rw [HW5.out];exact Ac nL _ _ _ ((Below.refl _ w4).alloc nL _)
 have hk5:Blk w4.heap.size (ffA x d1 q1 (some ⟨g2,0,none⟩) q2 d3 q3) 41 w5:=by
  rw [HW5.out];exact hza.setAll (ffA x d1 q1 (some ⟨g2,0,none⟩) q2 d3 q3) rfl
 obtain ⟨gx,hgx⟩:∃ gx,gx=w4.heap.size:=⟨_,rfl⟩;obtain ⟨eb,heb⟩:∃ eb,eb=w.heap.size+1:=⟨_,rfl⟩;obtain ⟨rb,hrb⟩:∃ rb,rb=w.heap.size+1+1:=⟨_,rfl⟩;have HEW:Hid (EvW x v am cm al cl gx eb rb (.slice d1 x.berths.length q1) (.slice (some ⟨g2,0,none⟩) x.services.length q2) (.slice d3 x.copies.length q3) w w4 w5):=⟨by rw [hgx];exact hk5,by rw [heb];exact HE4.below hbx HE4.lt,by rw [hrb];exact HR4.below hbx HR4.lt,qt hB4 hbx,by rw [hgx];exact hbx,by omega,by omega,by omega,by omega⟩;have HGX:Hid (w4.heap.size=gx):=hgx.symm;go_upto_region 2 with (refine Ad rfl 41 _ _ rfl w4.heap.size 0 (ffA x d1 q1 (some ⟨g2,0,none⟩) q2 d3 q3) rfl rfl HTS Ak (by simp [Value.oneCell']) w5 HW5 ?_);clear HTS HW5 hza hbx hk5 HE4 HR4 hB4 HF3 HE3 HR3 hsf hs1 hs2 hoc hb4 hr4 hkB hwB hg2;rw [← HGX.out] at hgx;clear hgx;rw [HGX.out,← hrb,← heb];have HRB0:rb<w3.heap.size:=by rw [hrb];exact HRL
 clear heb hrb HRL;have HRB:Hid (rb<w3.heap.size):=HRB0;have _hv:=And.intro hvm hvl;clear _hv;have e1:¬ v.kind=1:=f1.out;have e2:¬ v.kind=2:=f2.out;have e3:¬ v.kind=3:=f3.out;have e4:¬ v.kind=4:=f4.out;have e5:¬ v.kind=5:=f5.out;clear f1 f2 f3 f4 f5;have HEV:Hid (evF x v=some x):=by
  show evF x v=some x
  unfold evF;rw [if_neg e1,if_neg e2,if_neg e3,if_neg e4,if_neg e5]
 have k0:w5.cell? ⟨eb,0,none⟩=some (.int .i64 v.kind):=HEW.out.he.cell rfl;have f1:(v.kind == 1)=false:=by simpa using e1
 have f2:(v.kind == 2)=false:=by simpa using e2
 have f3:(v.kind == 3)=false:=by simpa using e3
 have f4:(v.kind == 4)=false:=by simpa using e4
 have f5:(v.kind == 5)=false:=by simpa using e5
 go_upto_region 39 with fail;clear k0 f1 e1 f2 e2 f3 e3 f4 e4 f5 e5;have HTR:=iH HEW.out.hr.there;have HLX:=iH HEW.out.hx.rangeA;obtain ⟨wz,HWZ⟩:∃ w',Hid (w'=w5.setCells rb 0 (ffL x d1 q1 (some ⟨g2,0,none⟩) q2 d3 q3)):=⟨_,rfl⟩;have HRZ:Hid (wz.rangeAt rb 0 (ffL x d1 q1 (some ⟨g2,0,none⟩) q2 d3 q3)):=by
  show World.rangeAt _ _ _ _
  rw [HWZ.out];exact World.rangeAt_setCells_same _ _ _ _ HTR
 have hBZ:Below w.heap.size w wz:=by
  have k1:=HEW.out.i1;have k2:=HEW.out.i2;rw [HWZ.out];exact Ac (by omega) _ _ _ HEW.out.hb
 have hRB:rb<w3.heap.size:=HRB.out;have HKV:Hid (Keeps w3.heap.size w4 wz):=by
  show Keeps _ _ _
  rw [HWZ.out];have h9:Keeps w3.heap.size w4 w5:=Keeps.of_below HEW.out.h4 (Nat.le_of_eq HGX) _;exact h9.trans (Keeps.setCells hRB _ _ _)
 have HKW:Hid (Keeps H wB wz):=HKB.out.trans (HKV.out.up hH1);go_wp2_with (first | (refine lr Bw HLX ?_) | (refine Ad rfl 41 _ _ rfl rb 0 (ffA x d1 q1 (some ⟨g2,0,none⟩) q2 d3 q3) rfl rfl HTR Ak (by simp [Value.oneCell']) wz HWZ ?_));exact bodyPost_ret (Bn rfl _ _ rb (ffL x d1 q1 (some ⟨g2,0,none⟩) q2 d3 q3) _ rfl HRZ Tryz.underlying41 rfl Ak) rfl (.inr ⟨x,d1,q1,some ⟨g2,0,none⟩,q2,d3,q3,HEV,rfl,(HS1.out.keep BrtC.holds HKW (lT hHw hH1)),(HS2.out.keep SvcC.holds HKV hHw),((HOC.out.copies HZC (by unfold maxLen;omega)).keep CpyC.holds (HKV.out.up (lT hH1 hH2)) (lT hHw (lT hH1 hH2))),hBZ⟩)
end Go.Proofs.YtihnjndnkgnmaaaGreat
