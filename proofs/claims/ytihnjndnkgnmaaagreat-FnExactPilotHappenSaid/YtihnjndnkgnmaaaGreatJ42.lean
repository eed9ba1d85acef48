import Derived.Test.YtihnjndnkgnmaaaGreatJ37
set_option maxHeartbeats 8000000
namespace Go.Proofs.YtihnjndnkgnmaaaGreat
set_option maxRecDepth 100000
open Go.RowKit Go.WideMaps Go.Maps
theorem eE (x:Flt) (v:Evt) (pf p m1 m2 m3 m4 b1 o1 c1:Nat) (a2:OA) (c2 b3 o3 c3:Nat) (am:OA) (cm:Nat) (al:OA) (cl lo:Nat) (W0 w:World) (H:AcPre x v pf p m1 m2 m3 m4 b1 o1 c1 a2 c2 b3 o3 c3 am cm al cl lo W0 w) (hkd:v.kind=5) :
  Calls Tryz.prog 101 #[.pointer (some ⟨p,0,none⟩)] w fun e w'=>Wk x v pf p a2 c2 am cm al cl lo w e w':=by
 have hl1:x.berths.length≤13:=lT (Bx H.hv).1 (by omega);have hl3:x.copies.length≤61:=lT (Bm H.hv).2.1 (by omega);have HP:=iH H;have HK:=iH H.hK;have hB:=H.hB;have HA:=iH (Bm H.hv).2.2.2.1;have k0:w.cell? ⟨p,0,none⟩=some (.pointer (some ⟨pf,0,none⟩)):=H.hK.cell rfl;have kf:w.cell? ⟨pf,6,none⟩=some (.map (some m3)):=H.hF.1 6 _ rfl;have kn:w.cell? ⟨p,24,none⟩=some (.string v.name):=H.hK.cell rfl;have yl:=Ar (s:=v.name) H.hF.2.2.2.2.1.drew H.zn;have HKD:=iH hkd;have hpw:p<w.heap.size:=H.hK.lt;clear H hkd;go_enter Tryz.func101,Tryz.ntmps101;go_upto_region 1 with fail;have HT1:Hid (Asq (cpN x) v.name x.copies.length=Asq (cpN x) v.name x.copies.length):=rfl;generalize hj0:Asq (cpN x) v.name x.copies.length=L1 at yl;have HJ0:=iH hj0;clear hj0
 go_region
 clear yl k0 kf kn HT1;have hBp:Below p w w.drew:=(Below.refl p w).drew;replace hB:=hB.drew;replace HK:=iH HK.out.drew;have HF1:=iH (HP.out.hF.below (Below.refl _ w).drew);have hpd:p<w.drew.heap.size:=HK.out.lt;generalize w.drew=w1 at *;have k0:w1.cell? ⟨p,0,none⟩=some (.pointer (some ⟨pf,0,none⟩)):=HK.out.cell rfl;have kf:w1.cell? ⟨pf,4,none⟩=some (.map (some m1)):=HF1.out.1 4 _ rfl;have kn:w1.cell? ⟨p,25,none⟩=some (.string v.at_):=HK.out.cell rfl;have yl:=Ar (s:=v.at_) HF1.out.2.2.1.drew HP.out.za;generalize hj2:Asq (x.berths.map (·.name)) v.at_ x.berths.length=L2 at yl;have HJ2:=iH hj2;clear hj2;go_upto_region 2 with fail
 go_region
 replace hBp:=hBp.drew;replace hB:=hB.drew;replace HK:=iH HK.out.drew;replace hpd:p<w1.drew.heap.size:=HK.out.lt;clear yl k0 kf kn HF1;generalize w1.drew=wn at *;have k25:wn.cell? ⟨p,25,none⟩=some (.string v.at_):=HK.out.cell rfl;have k4:wn.cell? ⟨p,4,none⟩=some (.slice (some ⟨b3,o3,none⟩) x.copies.length c3):=HK.out.cell rfl;have HNO:Hid (L1=none∨(L2=none∧¬ v.at_=Gn)→evF x v=none):=by
  intro h;simp only [evF,HKD.out,HJ0.out,HJ2.out];rcases h with h | ⟨h1,h2⟩
  ·subst h
   simp
  ·subst h1
   simp [h2]
 have HYES:Hid (∀ k,L1=some k→(v.at_=Gn∨L2.isSome=true)→evF x v=some { x with copies:=Du x.copies k v.at_ }):=by
  intro k h1 h2;simp only [evF,HKD.out,HJ0.out,HJ2.out];subst h1;simp [h2]
 have HGO:Hid (∀ k,L1=some k→k<x.copies.length):=fun k h=>(Dt (HJ0.out.trans h)).1
 clear HJ0 HJ2 HKD
 cases L1 with
 | none =>
  have HEV:=iH (HNO (.inl rfl));clear HNO HYES HGO;simp only [Option.isSome_none,Option.getD_none];go_wp2_with fail;go_ret;exact .inl ⟨HEV,rfl,hBp,HK.out.cell rfl⟩
 | some k =>
  simp only [Option.isSome_some,Option.getD_some];have hkl:=HGO.out k rfl;by_cases hno:L2=none∧¬ v.at_=Gn
  ·have HEV:=iH (HNO (.inr hno))
   obtain ⟨hn1,hn2⟩:=hno;subst hn1;have ht:=Fd hn2;have ht0:v.at_.toList.isEmpty=false:=by
    cases he:v.at_.toList with
    | nil=>exact absurd (by rw [ByteArray.toList_eq] at he;exact ByteArray.ext (Array.toList_inj.1 he)) hn2
    | cons _ _=>rfl
   clear HNO HYES HGO;simp only [Option.isSome_none];go_wp2_with fail;go_ret;exact .inl ⟨HEV,rfl,hBp,HK.out.cell rfl⟩
  ·have hor:v.at_=Gn∨L2.isSome=true:=by
    cases L2 with
    | none=>exact .inl (Classical.not_not.1 (fun h=>hno ⟨rfl,h⟩))
    | some _=>exact .inr rfl
   have HEV:=iH (HYES k rfl hor);clear HNO HYES HGO hno;obtain ⟨c,hc⟩:=gX hkl;have HMV:=iH (iK HA hc v.at_);obtain ⟨bq,oq,eq,_,hbq,hcc⟩:=HP.out.n3.at hc;cases eq
   obtain ⟨ax,cx,hrc,hlk⟩:=aK hcc;have HLK:=iH hlk;have HRC:Hid (wn.rangeAt b3 (o3+k*12) (ccL c ax cx)):=kT hrc hB hbq;have HSZ:Hid (SzC (Du x.copies k v.at_)):=by
    intro y hy;have hz:=HP.out.z3 c (List.mem_cons_of_mem _ (List.mem_of_getElem? hc));unfold Du at hy;rw [hc] at hy;rcases List.mem_append.1 hy with h | h
    ·exact HP.out.z3 y (List.mem_cons_of_mem _ (List.mem_of_mem_take h))
    ·rcases List.mem_cons.1 h with h | h
     ·subst h
      exact ⟨hz.1,hz.2.1,hz.2.2.1,hz.2.2.2.1,hz.2.2.2.2.1,HP.out.za⟩
     ·exact HP.out.z3 y (List.mem_cons_of_mem _ (List.mem_of_mem_drop h))
   clear hc hcc hrc hlk hbq
   cases L2 with
   | some kb =>
    clear hor;simp only [Option.isSome_some];go_upto_region 5 with fail;have hza:=Blk.alloc wn xxA 48;have HTS:Hid ((wn.alloc (Obj.cells xxA 48)).there wn.heap.size 0 12):=hza.there;obtain ⟨w4,HW4⟩:∃ w4,Hid (w4=(wn.alloc (Obj.cells xxA 48)).setCells wn.heap.size 0 (ccL c ax cx)):=⟨_,rfl⟩;have HM4:Hid (Blk wn.heap.size (ccA c ax cx) 48 w4):=by
     show Blk _ _ _ _
     rw [HW4.out];exact hza.setAll (ccA c ax cx) rfl
    have hbx:Below wn.heap.size wn w4:=by
     rw [HW4.out];exact Ac nL _ _ _ ((Below.refl _ wn).alloc nL _)
    have hB4:=qt hB hbx;have hBp4:=hBp.trans (hbx.mono (lE hpd));have HK4:=qb HK hbx;clear hza hbx hB hBp;go_upto_region 6 with (first | (refine lr Exq HRC ?_) | (refine Ad rfl 48 _ _ rfl wn.heap.size 0 (ccA c ax cx) rfl rfl HTS Bh (by simp [Value.oneCell']) w4 HW4 ?_));clear HTS HW4 HRC k25 k4 HK;obtain ⟨pm,hpm⟩:∃ pm,pm=wn.heap.size:=⟨_,rfl⟩;rw [← hpm] at HM4 ⊢;have hpp:p<pm:=by omega
    clear hpm;have k25:w4.cell? ⟨p,25,none⟩=some (.string v.at_):=HK4.out.cell rfl;have k11:w4.cell? ⟨pm,11,none⟩=some (.string c.at_):=HM4.out.cell rfl;have f11:=HM4.out.frozen 11;go_upto_region 7 with fail;clear k25 k11 f11;have HM6:Hid (Blk pm #[.string c.name,.string c.service,.int .i64 c.rank,.int .i64 c.born,.int .i64 c.room,.int .i64 c.hold,.string c.select,.slice ax c.likes.length cx,.int .i64 c.apart,.string c.near,.string c.fixed,.string v.at_] 48 (w4.setCell ⟨pm,11,none⟩ (.string v.at_))):=HM4.out.set 11 _;have HK6:=iH (HK4.out.other (a:=⟨pm,11,none⟩) (show p≠pm by omega) (.string v.at_));have hB6:Below W0.heap.size W0 (w4.setCell ⟨pm,11,none⟩ (.string v.at_)):=hB4.setCell (p:=⟨pm,11,none⟩) (by show W0.heap.size≤pm;have h9:=HP.out.hp;omega) _;have hBp6:Below p w (w4.setCell ⟨pm,11,none⟩ (.string v.at_)):=hBp4.setCell (p:=⟨pm,11,none⟩) (by show p≤pm;omega) _;clear HM4 HK4 hB4 hBp4;generalize w4.setCell ⟨pm,11,none⟩ (.string v.at_)=w6 at *;refine Av (S:=fun wy=>Blk p (chV pf x.pack (.slice (some ⟨b1,o1,none⟩) x.berths.length c1) (.slice a2 x.services.length c2) (.slice (some ⟨b3,o3,none⟩) x.copies.length c3) v am cm al cl) 76 wy∧Blk pm #[.string c.name,.string c.service,.int .i64 c.rank,.int .i64 c.born,.int .i64 c.room,.int .i64 c.hold,.string c.select,.slice ax c.likes.length cx,.int .i64 c.apart,.string c.near,.string c.fixed,.string v.at_] 48 wy) 11 (by kernel_rfl) ⟨HK6.out.drew,HM6.out.drew⟩ (fun hS=>?_);have HK7:=iH HK6.out.drew;have HM7:=iH HM6.out.drew;have hB7:=hB6.drew;have hBp7:=hBp6.drew;have hpd7:p<w6.drew.heap.size:=HK7.out.lt;clear HK6 HM6 hB6 hBp6;generalize w6.drew=w7 at *;refine tv 0 ⟨some 68,_,_,_,_,none⟩ (.pointer (some ⟨p,0,none⟩)) rfl (by rfl) ?_ hS ?_
    ·intro wy hy
     clear hy;go_simp
    simp only [pX];refine tv 1 ⟨some 69,_,_,_,_,none⟩ (.pointer (some ⟨p,0,none⟩)) rfl (by rfl) ?_ hS ?_
    ·intro wy hy
     clear hy;go_simp
    simp only [pX];refine tv 2 ⟨some 70,_,_,_,_,none⟩ (.pointer (some ⟨p,0,none⟩)) rfl (by rfl) ?_ hS ?_
    ·intro wy hy
     clear hy;go_simp
    simp only [pX];refine tv 3 ⟨some 71,_,_,_,_,none⟩ (.pointer (some ⟨p,1,none⟩)) rfl (by rfl) ?_ hS ?_
    ·intro wy hy
     clear hy;go_simp
    simp only [pX];refine tv 4 ⟨some 72,_,_,_,_,none⟩ (.pointer (some ⟨p,4,none⟩)) rfl (by rfl) ?_ hS ?_
    ·intro wy hy
     clear hy;go_simp
    simp only [pX];refine tv 5 ⟨some 73,_,_,_,_,none⟩ (.slice (some ⟨b3,o3,none⟩) x.copies.length c3) rfl (by rfl) ?_ hS ?_
    ·intro wy hy
     have h0:wy.cell? ⟨p,4,none⟩=some (.slice (some ⟨b3,o3,none⟩) x.copies.length c3):=Blk.cell hy.1 rfl;clear hy;go_simp
    simp only [pX];refine tu 6 ⟨some 74,_,_,_,_,none⟩ (.agg #[.string c.name,.string c.service,.int .i64 c.rank,.int .i64 c.born,.int .i64 c.room,.int .i64 c.hold,.string c.select,.slice ax c.likes.length cx,.int .i64 c.apart,.string c.near,.string c.fixed,.string v.at_]) rfl (yieldsIf_load_mid (by rfl) _ _ rfl pm (0) rfl [.string c.name,.string c.service,.int .i64 c.rank,.int .i64 c.born,.int .i64 c.room,.int .i64 c.hold,.string c.select,.slice ax c.likes.length cx,.int .i64 c.apart,.string c.near,.string c.fixed,.string v.at_] _ (fun _ h=>h.2.rangeA) Tryz.underlying48 rfl Bh) hS ?_;simp only [pX];refine ru1 7 ⟨some 75,_,_,_,_,none⟩ rfl (fun KK hKK=>?_);go_simp;refine (Ky x.copies { c with at_:=v.at_ } b3 o3 ax c3 cx lo W0 _ hB7 HP.out.n3 HLK (by omega) HP.out.hc3 HP.out.hm3 (Jo HA _)).mono ?_;rintro e w8 ⟨vv,ds,rfl,hO,hE,hb8⟩;rw [HMV.out] at hO hE;obtain ⟨d,q,rfl⟩:=Gj hO;have HO:=iH hO;have HE:=iH hE;have hB8:=qt hB7 hb8;have hBp8:=hBp7.trans (hb8.mono (lE hpd7));have HK8:=qb HK7 hb8;have HM8:=qb HM7 hb8;refine hKK.out _ _ ⟨HK8,HM8⟩ (fun hS=>?_);clear hKK KK hO hE hb8 hB7 hBp7 HK7 HM7;refine Cj (i:=8) (oi:=⟨some 76,_,_,_,_,none⟩) (v:=.pointer (some ⟨p,0,none⟩)) rfl (by kernel_rfl) (Or.inl ⟨by rfl,?_⟩) hS ?_
    ·intro wy hy
     clear hy;go_simp
    simp only [pX];refine Cj (i:=9) (oi:=⟨some 77,_,_,_,_,none⟩) (v:=.pointer (some ⟨p,1,none⟩)) rfl (by kernel_rfl) (Or.inl ⟨by rfl,?_⟩) hS ?_
    ·intro wy hy
     clear hy;go_simp
    simp only [pX];refine tv 10 ⟨some 78,_,_,_,_,none⟩ (.pointer (some ⟨p,4,none⟩)) rfl (by rfl) ?_ hS ?_
    ·intro wy hy
     clear hy;go_simp
    simp only [pX];have kz:w8.cell? ⟨p,4,none⟩=some (.slice (some ⟨b3,o3,none⟩) x.copies.length c3):=HK8.out.cell rfl;have fz:=HK8.out.frozen 4;refine Bb (rs:=[11]) (by kernel_rfl) (by simp) (AllReadyU.last (o:=⟨none,_,_,_,_,none⟩) rfl (fun KK hKK=>?_));go_simp;clear kz fz;have HK9:Hid (Blk p (chV pf x.pack (.slice (some ⟨b1,o1,none⟩) x.berths.length c1) (.slice a2 x.services.length c2) ((.slice d (Du x.copies k v.at_).length q)) v am cm al cl) 76 (w8.setCell ⟨p,4,none⟩ (.slice d (Du x.copies k v.at_).length q))):=HK8.out.set 4 _;have HO9:=iH (Cb (i:=4) HO hpd7 (.slice d (Du x.copies k v.at_).length q));have hBp9:=Fk (i:=4) hBp8 (.slice d (Du x.copies k v.at_).length q);have hB9:Below W0.heap.size W0 (w8.setCell ⟨p,4,none⟩ (.slice d (Du x.copies k v.at_).length q)):=hB8.setCell (p:=⟨p,4,none⟩) HP.out.hp _;refine hKK.out _ _ (Bl (by kernel_rfl) ?_ _);clear hKK KK hS HO HK8 HM8 hB8 hBp8;generalize w8.setCell ⟨p,4,none⟩ (.slice d (Du x.copies k v.at_).length q)=w9 at *;obtain ⟨d9,q9,e9,hsl⟩:=Hg HO9 (lT HP.out.hlo (lT HP.out.hp (lE hpd7))) (HE.out.below LikC.holds hB9 nL) HSZ (by rw [Lj];unfold maxLen;omega);have e8:d=d9:=by injection e9
    subst e8;have HSL:=iH hsl;clear hsl HO9 HE e9;go_wp2_with fail;go_ret;exact .inr ⟨{ x with copies:=Du x.copies k v.at_ },some ⟨b1,o1,none⟩,c1,d,q,HEV,rfl,rfl,rfl,hl1,(by show (Du x.copies k v.at_).length≤61;rw [Lj];exact hl3),HK9,HP.out.n1.below BrtC.holds hB9 nL,HSL,hBp9⟩
   | none =>
    have hat:v.at_=Gn:=by
     rcases hor with h | h
     ·exact h
     ·cases h
    have ht:=Gf hat;have ht0:v.at_.toList.isEmpty=true:=by rw [hat,ByteArray.toList_eq];rfl
    clear hor hat;simp only [Option.isSome_none];go_upto_region 5 with fail;clear ht ht0;have hza:=Blk.alloc wn xxA 48;have HTS:Hid ((wn.alloc (Obj.cells xxA 48)).there wn.heap.size 0 12):=hza.there;obtain ⟨w4,HW4⟩:∃ w4,Hid (w4=(wn.alloc (Obj.cells xxA 48)).setCells wn.heap.size 0 (ccL c ax cx)):=⟨_,rfl⟩;have HM4:Hid (Blk wn.heap.size (ccA c ax cx) 48 w4):=by
     show Blk _ _ _ _
     rw [HW4.out];exact hza.setAll (ccA c ax cx) rfl
    have hbx:Below wn.heap.size wn w4:=by
     rw [HW4.out];exact Ac nL _ _ _ ((Below.refl _ wn).alloc nL _)
    have hB4:=qt hB hbx;have hBp4:=hBp.trans (hbx.mono (lE hpd));have HK4:=qb HK hbx;clear hza hbx hB hBp;go_upto_region 6 with (first | (refine lr Exq HRC ?_) | (refine Ad rfl 48 _ _ rfl wn.heap.size 0 (ccA c ax cx) rfl rfl HTS Bh (by simp [Value.oneCell']) w4 HW4 ?_));clear HTS HW4 HRC k25 k4 HK;obtain ⟨pm,hpm⟩:∃ pm,pm=wn.heap.size:=⟨_,rfl⟩;rw [← hpm] at HM4 ⊢;have hpp:p<pm:=by omega
    clear hpm;have k25:w4.cell? ⟨p,25,none⟩=some (.string v.at_):=HK4.out.cell rfl;have k11:w4.cell? ⟨pm,11,none⟩=some (.string c.at_):=HM4.out.cell rfl;have f11:=HM4.out.frozen 11;go_upto_region 7 with fail;clear k25 k11 f11;have HM6:Hid (Blk pm #[.string c.name,.string c.service,.int .i64 c.rank,.int .i64 c.born,.int .i64 c.room,.int .i64 c.hold,.string c.select,.slice ax c.likes.length cx,.int .i64 c.apart,.string c.near,.string c.fixed,.string v.at_] 48 (w4.setCell ⟨pm,11,none⟩ (.string v.at_))):=HM4.out.set 11 _;have HK6:=iH (HK4.out.other (a:=⟨pm,11,none⟩) (show p≠pm by omega) (.string v.at_));have hB6:Below W0.heap.size W0 (w4.setCell ⟨pm,11,none⟩ (.string v.at_)):=hB4.setCell (p:=⟨pm,11,none⟩) (by show W0.heap.size≤pm;have h9:=HP.out.hp;omega) _;have hBp6:Below p w (w4.setCell ⟨pm,11,none⟩ (.string v.at_)):=hBp4.setCell (p:=⟨pm,11,none⟩) (by show p≤pm;omega) _;clear HM4 HK4 hB4 hBp4;generalize w4.setCell ⟨pm,11,none⟩ (.string v.at_)=w6 at *;refine Av (S:=fun wy=>Blk p (chV pf x.pack (.slice (some ⟨b1,o1,none⟩) x.berths.length c1) (.slice a2 x.services.length c2) (.slice (some ⟨b3,o3,none⟩) x.copies.length c3) v am cm al cl) 76 wy∧Blk pm #[.string c.name,.string c.service,.int .i64 c.rank,.int .i64 c.born,.int .i64 c.room,.int .i64 c.hold,.string c.select,.slice ax c.likes.length cx,.int .i64 c.apart,.string c.near,.string c.fixed,.string v.at_] 48 wy) 11 (by kernel_rfl) ⟨HK6.out.drew,HM6.out.drew⟩ (fun hS=>?_);have HK7:=iH HK6.out.drew;have HM7:=iH HM6.out.drew;have hB7:=hB6.drew;have hBp7:=hBp6.drew;have hpd7:p<w6.drew.heap.size:=HK7.out.lt;clear HK6 HM6 hB6 hBp6;generalize w6.drew=w7 at *;refine tv 0 ⟨some 68,_,_,_,_,none⟩ (.pointer (some ⟨p,0,none⟩)) rfl (by rfl) ?_ hS ?_
    ·intro wy hy
     clear hy;go_simp
    simp only [pX];refine tv 1 ⟨some 69,_,_,_,_,none⟩ (.pointer (some ⟨p,0,none⟩)) rfl (by rfl) ?_ hS ?_
    ·intro wy hy
     clear hy;go_simp
    simp only [pX];refine tv 2 ⟨some 70,_,_,_,_,none⟩ (.pointer (some ⟨p,0,none⟩)) rfl (by rfl) ?_ hS ?_
    ·intro wy hy
     clear hy;go_simp
    simp only [pX];refine tv 3 ⟨some 71,_,_,_,_,none⟩ (.pointer (some ⟨p,1,none⟩)) rfl (by rfl) ?_ hS ?_
    ·intro wy hy
     clear hy;go_simp
    simp only [pX];refine tv 4 ⟨some 72,_,_,_,_,none⟩ (.pointer (some ⟨p,4,none⟩)) rfl (by rfl) ?_ hS ?_
    ·intro wy hy
     clear hy;go_simp
    simp only [pX];refine tv 5 ⟨some 73,_,_,_,_,none⟩ (.slice (some ⟨b3,o3,none⟩) x.copies.length c3) rfl (by rfl) ?_ hS ?_
    ·intro wy hy
     have h0:wy.cell? ⟨p,4,none⟩=some (.slice (some ⟨b3,o3,none⟩) x.copies.length c3):=Blk.cell hy.1 rfl;clear hy;go_simp
    simp only [pX];refine tu 6 ⟨some 74,_,_,_,_,none⟩ (.agg #[.string c.name,.string c.service,.int .i64 c.rank,.int .i64 c.born,.int .i64 c.room,.int .i64 c.hold,.string c.select,.slice ax c.likes.length cx,.int .i64 c.apart,.string c.near,.string c.fixed,.string v.at_]) rfl (yieldsIf_load_mid (by rfl) _ _ rfl pm (0) rfl [.string c.name,.string c.service,.int .i64 c.rank,.int .i64 c.born,.int .i64 c.room,.int .i64 c.hold,.string c.select,.slice ax c.likes.length cx,.int .i64 c.apart,.string c.near,.string c.fixed,.string v.at_] _ (fun _ h=>h.2.rangeA) Tryz.underlying48 rfl Bh) hS ?_;simp only [pX];refine ru1 7 ⟨some 75,_,_,_,_,none⟩ rfl (fun KK hKK=>?_);go_simp;refine (Ky x.copies { c with at_:=v.at_ } b3 o3 ax c3 cx lo W0 _ hB7 HP.out.n3 HLK (by omega) HP.out.hc3 HP.out.hm3 (Jo HA _)).mono ?_;rintro e w8 ⟨vv,ds,rfl,hO,hE,hb8⟩;rw [HMV.out] at hO hE;obtain ⟨d,q,rfl⟩:=Gj hO;have HO:=iH hO;have HE:=iH hE;have hB8:=qt hB7 hb8;have hBp8:=hBp7.trans (hb8.mono (lE hpd7));have HK8:=qb HK7 hb8;have HM8:=qb HM7 hb8;refine hKK.out _ _ ⟨HK8,HM8⟩ (fun hS=>?_);clear hKK KK hO hE hb8 hB7 hBp7 HK7 HM7;refine Cj (i:=8) (oi:=⟨some 76,_,_,_,_,none⟩) (v:=.pointer (some ⟨p,0,none⟩)) rfl (by kernel_rfl) (Or.inl ⟨by rfl,?_⟩) hS ?_
    ·intro wy hy
     clear hy;go_simp
    simp only [pX];refine Cj (i:=9) (oi:=⟨some 77,_,_,_,_,none⟩) (v:=.pointer (some ⟨p,1,none⟩)) rfl (by kernel_rfl) (Or.inl ⟨by rfl,?_⟩) hS ?_
    ·intro wy hy
     clear hy;go_simp
    simp only [pX];refine tv 10 ⟨some 78,_,_,_,_,none⟩ (.pointer (some ⟨p,4,none⟩)) rfl (by rfl) ?_ hS ?_
    ·intro wy hy
     clear hy;go_simp
    simp only [pX];have kz:w8.cell? ⟨p,4,none⟩=some (.slice (some ⟨b3,o3,none⟩) x.copies.length c3):=HK8.out.cell rfl;have fz:=HK8.out.frozen 4;refine Bb (rs:=[11]) (by kernel_rfl) (by simp) (AllReadyU.last (o:=⟨none,_,_,_,_,none⟩) rfl (fun KK hKK=>?_));go_simp;clear kz fz;have HK9:Hid (Blk p (chV pf x.pack (.slice (some ⟨b1,o1,none⟩) x.berths.length c1) (.slice a2 x.services.length c2) ((.slice d (Du x.copies k v.at_).length q)) v am cm al cl) 76 (w8.setCell ⟨p,4,none⟩ (.slice d (Du x.copies k v.at_).length q))):=HK8.out.set 4 _;have HO9:=iH (Cb (i:=4) HO hpd7 (.slice d (Du x.copies k v.at_).length q));have hBp9:=Fk (i:=4) hBp8 (.slice d (Du x.copies k v.at_).length q);have hB9:Below W0.heap.size W0 (w8.setCell ⟨p,4,none⟩ (.slice d (Du x.copies k v.at_).length q)):=hB8.setCell (p:=⟨p,4,none⟩) HP.out.hp _;refine hKK.out _ _ (Bl (by kernel_rfl) ?_ _);clear hKK KK hS HO HK8 HM8 hB8 hBp8;generalize w8.setCell ⟨p,4,none⟩ (.slice d (Du x.copies k v.at_).length q)=w9 at *;obtain ⟨d9,q9,e9,hsl⟩:=Hg HO9 (lT HP.out.hlo (lT HP.out.hp (lE hpd7))) (HE.out.below LikC.holds hB9 nL) HSZ (by rw [Lj];unfold maxLen;omega);have e8:d=d9:=by injection e9
    subst e8;have HSL:=iH hsl;clear hsl HO9 HE e9;go_wp2_with fail;go_ret;exact .inr ⟨{ x with copies:=Du x.copies k v.at_ },some ⟨b1,o1,none⟩,c1,d,q,HEV,rfl,rfl,rfl,hl1,(by show (Du x.copies k v.at_).length≤61;rw [Lj];exact hl3),HK9,HP.out.n1.below BrtC.holds hB9 nL,HSL,hBp9⟩
theorem Sy:(Tryz.prog.info? 110).map (·.size)=some 6:=by kernel_rfl
theorem mK:Ls 110 6:=⟨_,Tryz.underlying110,rfl,Sy⟩
theorem gH (p:Nat) (w:World):Calls Tryz.prog 64 #[.pointer (some ⟨p,0,none⟩)] w (Rt (.agg #[.nilFunc,.func (.func 97) #[.pointer (some ⟨p,0,none⟩)] #[],.func (.func 98) #[.pointer (some ⟨p,0,none⟩)] #[],.func (.func 99) #[.pointer (some ⟨p,0,none⟩)] #[],.func (.func 100) #[.pointer (some ⟨p,0,none⟩)] #[],.func (.func 101) #[.pointer (some ⟨p,0,none⟩)] #[]]) w):=by
 have hza:=Blk.alloc w #[.nilFunc,.nilFunc,.nilFunc,.nilFunc,.nilFunc,.nilFunc] 110;have HTS:Hid ((w.alloc (Obj.cells #[.nilFunc,.nilFunc,.nilFunc,.nilFunc,.nilFunc,.nilFunc] 110)).there w.heap.size 0 6):=hza.there;obtain ⟨w5,HW5⟩:∃ w5,Hid (w5=(w.alloc (Obj.cells #[.nilFunc,.nilFunc,.nilFunc,.nilFunc,.nilFunc,.nilFunc] 110)).setCells w.heap.size 0 [.nilFunc,.func (.func 97) #[.pointer (some ⟨p,0,none⟩)] #[],.func (.func 98) #[.pointer (some ⟨p,0,none⟩)] #[],.func (.func 99) #[.pointer (some ⟨p,0,none⟩)] #[],.func (.func 100) #[.pointer (some ⟨p,0,none⟩)] #[],.func (.func 101) #[.pointer (some ⟨p,0,none⟩)] #[]]):=⟨_,rfl⟩;have HK5:Hid (Blk w.heap.size #[.nilFunc,.func (.func 97) #[.pointer (some ⟨p,0,none⟩)] #[],.func (.func 98) #[.pointer (some ⟨p,0,none⟩)] #[],.func (.func 99) #[.pointer (some ⟨p,0,none⟩)] #[],.func (.func 100) #[.pointer (some ⟨p,0,none⟩)] #[],.func (.func 101) #[.pointer (some ⟨p,0,none⟩)] #[]] 110 w5):=by
  show Blk _ _ _ _
  rw [HW5.out];exact hza.setAll #[.nilFunc,.func (.func 97) #[.pointer (some ⟨p,0,none⟩)] #[],.func (.func 98) #[.pointer (some ⟨p,0,none⟩)] #[],.func (.func 99) #[.pointer (some ⟨p,0,none⟩)] #[],.func (.func 100) #[.pointer (some ⟨p,0,none⟩)] #[],.func (.func 101) #[.pointer (some ⟨p,0,none⟩)] #[]] rfl
 have hbx:Below w.heap.size w w5:=by
  rw [HW5.out];exact Ac nL _ _ _ ((Below.refl _ w).alloc nL _)
 clear hza;go_enter Tryz.func64,Tryz.ntmps64;go_wp2_with (refine Ad rfl 110 _ _ rfl w.heap.size 0 #[.nilFunc,.func (.func 97) #[.pointer (some ⟨p,0,none⟩)] #[],.func (.func 98) #[.pointer (some ⟨p,0,none⟩)] #[],.func (.func 99) #[.pointer (some ⟨p,0,none⟩)] #[],.func (.func 100) #[.pointer (some ⟨p,0,none⟩)] #[],.func (.func 101) #[.pointer (some ⟨p,0,none⟩)] #[]] rfl rfl HTS Sy (by simp [Value.oneCell']) w5 HW5 ?_);exact bodyPost_ret (Ax rfl _ _ w.heap.size [.nilFunc,.func (.func 97) #[.pointer (some ⟨p,0,none⟩)] #[],.func (.func 98) #[.pointer (some ⟨p,0,none⟩)] #[],.func (.func 99) #[.pointer (some ⟨p,0,none⟩)] #[],.func (.func 100) #[.pointer (some ⟨p,0,none⟩)] #[],.func (.func 101) #[.pointer (some ⟨p,0,none⟩)] #[]] _ rfl HK5.out.rangeA Tryz.underlying110 rfl Sy) rfl ⟨rfl,hbx⟩
def HpM (x:Flt) (v:Evt) (pf p:Nat) (a2:OA) (c2:Nat) (am:OA) (cm:Nat) (al:OA) (cl lo:Nat) (w:World) (e:Ending) (w':World):Prop :=
 (∃ code:Int,¬ code=0∧Hj x v=(Inq,code)∧e=.returned (.int .i64 code)∧Below p w w')∨∃ (y:Flt) (d1:OA) (q1:Nat) (d3:OA) (q3:Nat),Hj x v=(y,0)∧Bj y=true∧e=.returned (.int .i64 0)∧y.pack=x.pack∧y.services=x.services∧Blk p (chV pf x.pack (.slice d1 y.berths.length q1) (.slice a2 x.services.length c2) (.slice d3 y.copies.length q3) v am cm al cl) 76 w'∧SliceC BrtC 6 lo w' d1 y.berths∧SliceC CpyC 12 lo w' d3 y.copies∧Below p w w'
theorem AcPre.drew {x:Flt} {v:Evt} {pf p m1 m2 m3 m4 b1 o1 c1:Nat} {a2:OA} {c2 b3 o3 c3:Nat} {am:OA} {cm:Nat} {al:OA} {cl lo:Nat} {W0 w:World} (H:AcPre x v pf p m1 m2 m3 m4 b1 o1 c1 a2 c2 b3 o3 c3 am cm al cl lo W0 w):AcPre x v pf p m1 m2 m3 m4 b1 o1 c1 a2 c2 b3 o3 c3 am cm al cl lo W0 w.drew :=
 ⟨H.n1,H.n3,H.nm,H.nl,H.hlo,H.hc1,H.hm1,H.hc3,H.hm3,H.z1,H.z3,H.zn,H.za,H.hv,H.hB.drew,H.hp,H.hK.drew,H.hF.below (Below.refl _ w).drew⟩
theorem AcPre.below {x:Flt} {v:Evt} {pf p m1 m2 m3 m4 b1 o1 c1:Nat} {a2:OA} {c2 b3 o3 c3:Nat} {am:OA} {cm:Nat} {al:OA} {cl lo:Nat} {W0 w:World} {w':World} (H:AcPre x v pf p m1 m2 m3 m4 b1 o1 c1 a2 c2 b3 o3 c3 am cm al cl lo W0 w) (hb:Below w.heap.size w w'):AcPre x v pf p m1 m2 m3 m4 b1 o1 c1 a2 c2 b3 o3 c3 am cm al cl lo W0 w' :=
 ⟨H.n1,H.n3,H.nm,H.nl,H.hlo,H.hc1,H.hm1,H.hc3,H.hm3,H.z1,H.z3,H.zn,H.za,H.hv,H.hB.trans (hb.mono H.hB.size),H.hp,H.hK.below hb H.hK.lt,H.hF.below hb⟩
theorem Vf (x:Flt) (v:Evt) (pf p m1 m2 m3 m4 b1 o1 c1:Nat) (a2:OA) (c2 b3 o3 c3:Nat) (am:OA) (cm:Nat) (al:OA) (cl lo:Nat) (W0 w:World) (H:AcPre x v pf p m1 m2 m3 m4 b1 o1 c1 a2 c2 b3 o3 c3 am cm al cl lo W0 w) (n2:SliceC SvcC 2 lo W0 a2 x.services) :
  Calls Tryz.prog 29 #[.pointer (some ⟨p,0,none⟩)] w fun e w'=>HpM x v pf p a2 c2 am cm al cl lo w e w':=by
 have HP:=iH H;have HV:=iH H.hv;have HN2:=iH n2;have k5:w.cell? ⟨p,5,none⟩=some (.int .i64 v.kind):=H.hK.cell rfl;have hls:x.services.length≤30:=(Bm H.hv).1;have hpd:=H.hK.lt;clear H n2;go_enter Tryz.func29,Tryz.ntmps29;by_cases hk:¬ (1≤v.kind∧v.kind≤5)
 ·have HC:Hid (inR v.kind 1 5=false):=by
   show inR v.kind 1 5=false
   unfold inR;rw [Bool.eq_false_iff];intro h;simp at h;exact hk h
  have HR:=iH (gG HV hk);clear hk;go_wp2_with fail;refine (Fp _ _ _ _).mono ?_;rintro e w9 ⟨rfl,hb9⟩;rw [HC.out];go_wp2_with fail;go_ret;exact .inl ⟨4,by decide,HR,rfl,hb9.mono (lE hpd)⟩
 have hk':=Classical.not_not.1 hk;clear hk;have HC:Hid (inR v.kind 1 5=true):=by
  show inR v.kind 1 5=true
  unfold inR;simp;exact hk'
 have HKK:=iH hk';go_wp2_with fail;refine (Fp _ _ _ _).mono ?_;rintro e w0 ⟨rfl,hb0⟩;rw [HC.out];replace k5:w0.cell? ⟨p,5,none⟩=some (.int .i64 v.kind):=(hb0.cell (p:=⟨p,5,none⟩) hpd).trans k5;replace HP:=iH (HP.out.below hb0);have hBp0:Below p w w0:=hb0.mono (lE hpd);have hpd0:=HP.out.hK.lt;clear HC hb0 hpd;go_upto_region 3 with fail;refine wp_region_held_drew (S:=fun wy=>wy.cell? ⟨p,5,none⟩=some (.int .i64 v.kind)) (by kernel_rfl) k5 (fun hS=>?_);have HP1:=iH HP.out.drew;have hBp1:Below p w w0.drew:=hBp0.drew;have hpd1:p<w0.drew.heap.size:=hpd0;clear HP k5 hpd0 hBp0;generalize w0.drew=w1 at *;refine tz 0 11 (.pointer (some ⟨p,0,none⟩)) rfl hS ?_;simp only [pX];refine tz 2 13 (.pointer (some ⟨p,0,none⟩)) rfl hS ?_;simp only [pX];refine tz 3 14 (.pointer (some ⟨p,0,none⟩)) rfl hS ?_;simp only [pX];refine tz 4 15 (.pointer (some ⟨p,5,none⟩)) rfl hS ?_;simp only [pX];refine tz 5 16 (.pointer (some ⟨p,5,none⟩)) rfl hS ?_;simp only [pX];refine ty 6 ⟨some 17,_,_,_,_,none⟩ (.int .i64 v.kind) rfl (by rfl) ?_ hS ?_
 ·intro wy hy
  have h0:=id hy;clear hy;go_simp
 simp only [pX];refine rd1 1 ⟨some 12,_,_,_,_,none⟩ rfl (fun K hK=>?_);go_simp;refine (gH p _).mono ?_;rintro e w2 ⟨rfl,hb2⟩;have HP2:=iH (HP1.out.below hb2);have hBp2:=hBp1.trans (hb2.mono (lE hpd1));have hpd2:=HP2.out.hK.lt;refine hK.out _ _ ((hb2.cell (p:=⟨p,5,none⟩) hpd1).trans hS) (fun hS=>?_);clear hK K;clear hb2 hBp1 HP1;have hkk:v.kind=1∨v.kind=2∨v.kind=3∨v.kind=4∨v.kind=5:=by omega
 rcases hkk with hkd | hkd | hkd | hkd | hkd
 ·skip
  refine ty 7 ⟨some 18,_,_,_,_,none⟩ (.func (.func 97) #[.pointer (some ⟨p,0,none⟩)] #[]) rfl (by rfl) ?_ hS ?_
  ·intro wy hy
   rw [hkd];have hix:∀ wy:World,(Instr.index 110 (.agg #[.nilFunc,.func (.func 97) #[.pointer (some ⟨p,0,none⟩)] #[],.func (.func 98) #[.pointer (some ⟨p,0,none⟩)] #[],.func (.func 99) #[.pointer (some ⟨p,0,none⟩)] #[],.func (.func 100) #[.pointer (some ⟨p,0,none⟩)] #[],.func (.func 101) #[.pointer (some ⟨p,0,none⟩)] #[]]) (.int .i64 1)).run Tryz.prog wy=.ok (.func (.func 97) #[.pointer (some ⟨p,0,none⟩)] #[]) wy:=fun wy=>by kernel_rfl
   clear hy;go_simp
  simp only [pX];have HKD:=iH hkd;clear hkd;refine rd1 8 ⟨some 19,_,_,_,_,none⟩ rfl (fun K hK=>?_);go_simp;refine (Xy x v pf p m1 m2 m3 m4 b1 o1 c1 a2 c2 b3 o3 c3 am cm al cl lo W0 _ HP2 HKD).mono ?_;intro e w3 hres;rcases hres with ⟨hev,rfl,hb3,h5⟩ | ⟨y,d1,q1,d3,q3,hev,rfl,hpk,hsv,hlb,hlc,hbk,hs1,hs3,hb3⟩
  ·have HR:=iH (Md HV HKK hev)
   have hBp3:=hBp2.trans hb3;refine hK.out _ _ h5 (fun hS=>?_);clear hK K hev hb3 h5 HP2 HN2;refine tz 9 3 (.int .i64 3) rfl hS ?_;simp only [pX];refine td ?_;clear hS;go_wp2_with fail;go_ret;exact .inl ⟨3,by decide,HR,rfl,hBp3⟩
  ·have hBp3:=hBp2.trans hb3
   have hB3:Below W0.heap.size W0 w3:=HP2.out.hB.trans (hb3.mono HP2.out.hp);have HBK:=iH hbk;have HS1:=iH hs1;have HS3:=iH hs3;have HEV:=iH hev;refine hK.out _ _ (hbk.cell rfl) (fun hS=>?_);clear hK K hev hb3 hbk hs1 hs3;refine tz 9 3 (.int .i64 0) rfl hS ?_;simp only [pX];refine td ?_;clear hS;have HS2:Hid (SliceC SvcC 2 lo w3 a2 y.services):=by
    show SliceC _ _ _ _ _ _
    rw [hsv];exact HN2.out.below SvcC.holds hB3 nL
   have CT:=iH (El y d1 q1 a2 c2 d3 q3 lo w3 HS1 HS2 HS3 (by omega) (by rw [hsv];omega) (by omega));unfold ffA at CT;rw [hpk,hsv] at CT;have HPS:=iH (And.intro hpk hsv);clear hpk hsv HS2;go_wp2_with (refine wpList_load_mid rfl 41 _ rfl p 1 rfl (fgL x.pack d1 y.berths.length q1 a2 x.services.length c2 d3 y.copies.length q3) _ (chF HBK) Tryz.underlying41 rfl Ak ?_);refine CT.out.mono ?_;rintro e w4 ⟨rfl,hb4⟩;have hp3:p<w3.heap.size:=HBK.out.lt;have hBp4:=hBp3.trans (hb4.mono (lE hp3));have HBK4:=iH (HBK.out.below hb4 hp3);have HS14:=qS BrtC.holds HS1 hb4;have HS34:=qS CpyC.holds HS3 hb4;clear CT hb4 HBK HS1 HS3 hBp3 hB3
   cases hvy:Bj y with
   | false =>
    have HR:=iH (Mg HV HKK HEV hvy);clear hvy;go_wp2_with fail;go_ret;exact .inl ⟨2,by decide,HR,rfl,hBp4⟩
   | true =>
    have HR:=iH (Ms HV HKK HEV hvy);have HVY:=iH hvy;clear hvy;go_wp2_with fail;go_ret;exact .inr ⟨y,d1,q1,d3,q3,HR,HVY,rfl,HPS.out.1,HPS.out.2,HBK4,HS14,HS34,hBp4⟩
 ·skip
  refine ty 7 ⟨some 18,_,_,_,_,none⟩ (.func (.func 98) #[.pointer (some ⟨p,0,none⟩)] #[]) rfl (by rfl) ?_ hS ?_
  ·intro wy hy
   rw [hkd];have hix:∀ wy:World,(Instr.index 110 (.agg #[.nilFunc,.func (.func 97) #[.pointer (some ⟨p,0,none⟩)] #[],.func (.func 98) #[.pointer (some ⟨p,0,none⟩)] #[],.func (.func 99) #[.pointer (some ⟨p,0,none⟩)] #[],.func (.func 100) #[.pointer (some ⟨p,0,none⟩)] #[],.func (.func 101) #[.pointer (some ⟨p,0,none⟩)] #[]]) (.int .i64 2)).run Tryz.prog wy=.ok (.func (.func 98) #[.pointer (some ⟨p,0,none⟩)] #[]) wy:=fun wy=>by kernel_rfl
   clear hy;go_simp
  simp only [pX];have HKD:=iH hkd;clear hkd;refine rd1 8 ⟨some 19,_,_,_,_,none⟩ rfl (fun K hK=>?_);go_simp;refine (Vv x v pf p m1 m2 m3 m4 b1 o1 c1 a2 c2 b3 o3 c3 am cm al cl lo W0 _ HP2 HKD).mono ?_;intro e w3 hres;rcases hres with ⟨hev,rfl,hb3,h5⟩ | ⟨y,d1,q1,d3,q3,hev,rfl,hpk,hsv,hlb,hlc,hbk,hs1,hs3,hb3⟩
  ·have HR:=iH (Md HV HKK hev)
   have hBp3:=hBp2.trans hb3;refine hK.out _ _ h5 (fun hS=>?_);clear hK K hev hb3 h5 HP2 HN2;refine tz 9 3 (.int .i64 3) rfl hS ?_;simp only [pX];refine td ?_;clear hS;go_wp2_with fail;go_ret;exact .inl ⟨3,by decide,HR,rfl,hBp3⟩
  ·have hBp3:=hBp2.trans hb3
   have hB3:Below W0.heap.size W0 w3:=HP2.out.hB.trans (hb3.mono HP2.out.hp);have HBK:=iH hbk;have HS1:=iH hs1;have HS3:=iH hs3;have HEV:=iH hev;refine hK.out _ _ (hbk.cell rfl) (fun hS=>?_);clear hK K hev hb3 hbk hs1 hs3;refine tz 9 3 (.int .i64 0) rfl hS ?_;simp only [pX];refine td ?_;clear hS;have HS2:Hid (SliceC SvcC 2 lo w3 a2 y.services):=by
    show SliceC _ _ _ _ _ _
    rw [hsv];exact HN2.out.below SvcC.holds hB3 nL
   have CT:=iH (El y d1 q1 a2 c2 d3 q3 lo w3 HS1 HS2 HS3 (by omega) (by rw [hsv];omega) (by omega));unfold ffA at CT;rw [hpk,hsv] at CT;have HPS:=iH (And.intro hpk hsv);clear hpk hsv HS2;go_wp2_with (refine wpList_load_mid rfl 41 _ rfl p 1 rfl (fgL x.pack d1 y.berths.length q1 a2 x.services.length c2 d3 y.copies.length q3) _ (chF HBK) Tryz.underlying41 rfl Ak ?_);refine CT.out.mono ?_;rintro e w4 ⟨rfl,hb4⟩;have hp3:p<w3.heap.size:=HBK.out.lt;have hBp4:=hBp3.trans (hb4.mono (lE hp3));have HBK4:=iH (HBK.out.below hb4 hp3);have HS14:=qS BrtC.holds HS1 hb4;have HS34:=qS CpyC.holds HS3 hb4;clear CT hb4 HBK HS1 HS3 hBp3 hB3
   cases hvy:Bj y with
   | false =>
    have HR:=iH (Mg HV HKK HEV hvy);clear hvy;go_wp2_with fail;go_ret;exact .inl ⟨2,by decide,HR,rfl,hBp4⟩
   | true =>
    have HR:=iH (Ms HV HKK HEV hvy);have HVY:=iH hvy;clear hvy;go_wp2_with fail;go_ret;exact .inr ⟨y,d1,q1,d3,q3,HR,HVY,rfl,HPS.out.1,HPS.out.2,HBK4,HS14,HS34,hBp4⟩
 ·skip
  refine ty 7 ⟨some 18,_,_,_,_,none⟩ (.func (.func 99) #[.pointer (some ⟨p,0,none⟩)] #[]) rfl (by rfl) ?_ hS ?_
  ·intro wy hy
   rw [hkd];have hix:∀ wy:World,(Instr.index 110 (.agg #[.nilFunc,.func (.func 97) #[.pointer (some ⟨p,0,none⟩)] #[],.func (.func 98) #[.pointer (some ⟨p,0,none⟩)] #[],.func (.func 99) #[.pointer (some ⟨p,0,none⟩)] #[],.func (.func 100) #[.pointer (some ⟨p,0,none⟩)] #[],.func (.func 101) #[.pointer (some ⟨p,0,none⟩)] #[]]) (.int .i64 3)).run Tryz.prog wy=.ok (.func (.func 99) #[.pointer (some ⟨p,0,none⟩)] #[]) wy:=fun wy=>by kernel_rfl
   clear hy;go_simp
  simp only [pX];have HKD:=iH hkd;clear hkd;refine rd1 8 ⟨some 19,_,_,_,_,none⟩ rfl (fun K hK=>?_);go_simp;refine (Ye x v pf p m1 m2 m3 m4 b1 o1 c1 a2 c2 b3 o3 c3 am cm al cl lo W0 _ HP2 HKD).mono ?_;intro e w3 hres;rcases hres with ⟨hev,rfl,hb3,h5⟩ | ⟨y,d1,q1,d3,q3,hev,rfl,hpk,hsv,hlb,hlc,hbk,hs1,hs3,hb3⟩
  ·have HR:=iH (Md HV HKK hev)
   have hBp3:=hBp2.trans hb3;refine hK.out _ _ h5 (fun hS=>?_);clear hK K hev hb3 h5 HP2 HN2;refine tz 9 3 (.int .i64 3) rfl hS ?_;simp only [pX];refine td ?_;clear hS;go_wp2_with fail;go_ret;exact .inl ⟨3,by decide,HR,rfl,hBp3⟩
  ·have hBp3:=hBp2.trans hb3
   have hB3:Below W0.heap.size W0 w3:=HP2.out.hB.trans (hb3.mono HP2.out.hp);have HBK:=iH hbk;have HS1:=iH hs1;have HS3:=iH hs3;have HEV:=iH hev;refine hK.out _ _ (hbk.cell rfl) (fun hS=>?_);clear hK K hev hb3 hbk hs1 hs3;refine tz 9 3 (.int .i64 0) rfl hS ?_;simp only [pX];refine td ?_;clear hS;have HS2:Hid (SliceC SvcC 2 lo w3 a2 y.services):=by
    show SliceC _ _ _ _ _ _
    rw [hsv];exact HN2.out.below SvcC.holds hB3 nL
   have CT:=iH (El y d1 q1 a2 c2 d3 q3 lo w3 HS1 HS2 HS3 (by omega) (by rw [hsv];omega) (by omega));unfold ffA at CT;rw [hpk,hsv] at CT;have HPS:=iH (And.intro hpk hsv);clear hpk hsv HS2;go_wp2_with (refine wpList_load_mid rfl 41 _ rfl p 1 rfl (fgL x.pack d1 y.berths.length q1 a2 x.services.length c2 d3 y.copies.length q3) _ (chF HBK) Tryz.underlying41 rfl Ak ?_);refine CT.out.mono ?_;rintro e w4 ⟨rfl,hb4⟩;have hp3:p<w3.heap.size:=HBK.out.lt;have hBp4:=hBp3.trans (hb4.mono (lE hp3));have HBK4:=iH (HBK.out.below hb4 hp3);have HS14:=qS BrtC.holds HS1 hb4;have HS34:=qS CpyC.holds HS3 hb4;clear CT hb4 HBK HS1 HS3 hBp3 hB3
   cases hvy:Bj y with
   | false =>
    have HR:=iH (Mg HV HKK HEV hvy);clear hvy;go_wp2_with fail;go_ret;exact .inl ⟨2,by decide,HR,rfl,hBp4⟩
   | true =>
    have HR:=iH (Ms HV HKK HEV hvy);have HVY:=iH hvy;clear hvy;go_wp2_with fail;go_ret;exact .inr ⟨y,d1,q1,d3,q3,HR,HVY,rfl,HPS.out.1,HPS.out.2,HBK4,HS14,HS34,hBp4⟩
 ·skip
  refine ty 7 ⟨some 18,_,_,_,_,none⟩ (.func (.func 100) #[.pointer (some ⟨p,0,none⟩)] #[]) rfl (by rfl) ?_ hS ?_
  ·intro wy hy
   rw [hkd];have hix:∀ wy:World,(Instr.index 110 (.agg #[.nilFunc,.func (.func 97) #[.pointer (some ⟨p,0,none⟩)] #[],.func (.func 98) #[.pointer (some ⟨p,0,none⟩)] #[],.func (.func 99) #[.pointer (some ⟨p,0,none⟩)] #[],.func (.func 100) #[.pointer (some ⟨p,0,none⟩)] #[],.func (.func 101) #[.pointer (some ⟨p,0,none⟩)] #[]]) (.int .i64 4)).run Tryz.prog wy=.ok (.func (.func 100) #[.pointer (some ⟨p,0,none⟩)] #[]) wy:=fun wy=>by kernel_rfl
   clear hy;go_simp
  simp only [pX];have HKD:=iH hkd;clear hkd;refine rd1 8 ⟨some 19,_,_,_,_,none⟩ rfl (fun K hK=>?_);go_simp;refine (Vq x v pf p m1 m2 m3 m4 b1 o1 c1 a2 c2 b3 o3 c3 am cm al cl lo W0 _ HP2 HKD).mono ?_;intro e w3 hres;rcases hres with ⟨hev,rfl,hb3,h5⟩ | ⟨y,d1,q1,d3,q3,hev,rfl,hpk,hsv,hlb,hlc,hbk,hs1,hs3,hb3⟩
  ·have HR:=iH (Md HV HKK hev)
   have hBp3:=hBp2.trans hb3;refine hK.out _ _ h5 (fun hS=>?_);clear hK K hev hb3 h5 HP2 HN2;refine tz 9 3 (.int .i64 3) rfl hS ?_;simp only [pX];refine td ?_;clear hS;go_wp2_with fail;go_ret;exact .inl ⟨3,by decide,HR,rfl,hBp3⟩
  ·have hBp3:=hBp2.trans hb3
   have hB3:Below W0.heap.size W0 w3:=HP2.out.hB.trans (hb3.mono HP2.out.hp);have HBK:=iH hbk;have HS1:=iH hs1;have HS3:=iH hs3;have HEV:=iH hev;refine hK.out _ _ (hbk.cell rfl) (fun hS=>?_);clear hK K hev hb3 hbk hs1 hs3;refine tz 9 3 (.int .i64 0) rfl hS ?_;simp only [pX];refine td ?_;clear hS;have HS2:Hid (SliceC SvcC 2 lo w3 a2 y.services):=by
    show SliceC _ _ _ _ _ _
    rw [hsv];exact HN2.out.below SvcC.holds hB3 nL
   have CT:=iH (El y d1 q1 a2 c2 d3 q3 lo w3 HS1 HS2 HS3 (by omega) (by rw [hsv];omega) (by omega));unfold ffA at CT;rw [hpk,hsv] at CT;have HPS:=iH (And.intro hpk hsv);clear hpk hsv HS2;go_wp2_with (refine wpList_load_mid rfl 41 _ rfl p 1 rfl (fgL x.pack d1 y.berths.length q1 a2 x.services.length c2 d3 y.copies.length q3) _ (chF HBK) Tryz.underlying41 rfl Ak ?_);refine CT.out.mono ?_;rintro e w4 ⟨rfl,hb4⟩;have hp3:p<w3.heap.size:=HBK.out.lt;have hBp4:=hBp3.trans (hb4.mono (lE hp3));have HBK4:=iH (HBK.out.below hb4 hp3);have HS14:=qS BrtC.holds HS1 hb4;have HS34:=qS CpyC.holds HS3 hb4;clear CT hb4 HBK HS1 HS3 hBp3 hB3
   cases hvy:Bj y with
   | false =>
    have HR:=iH (Mg HV HKK HEV hvy);clear hvy;go_wp2_with fail;go_ret;exact .inl ⟨2,by decide,HR,rfl,hBp4⟩
   | true =>
    have HR:=iH (Ms HV HKK HEV hvy);have HVY:=iH hvy;clear hvy;go_wp2_with fail;go_ret;exact .inr ⟨y,d1,q1,d3,q3,HR,HVY,rfl,HPS.out.1,HPS.out.2,HBK4,HS14,HS34,hBp4⟩
 ·skip
  refine ty 7 ⟨some 18,_,_,_,_,none⟩ (.func (.func 101) #[.pointer (some ⟨p,0,none⟩)] #[]) rfl (by rfl) ?_ hS ?_
  ·intro wy hy
   rw [hkd];have hix:∀ wy:World,(Instr.index 110 (.agg #[.nilFunc,.func (.func 97) #[.pointer (some ⟨p,0,none⟩)] #[],.func (.func 98) #[.pointer (some ⟨p,0,none⟩)] #[],.func (.func 99) #[.pointer (some ⟨p,0,none⟩)] #[],.func (.func 100) #[.pointer (some ⟨p,0,none⟩)] #[],.func (.func 101) #[.pointer (some ⟨p,0,none⟩)] #[]]) (.int .i64 5)).run Tryz.prog wy=.ok (.func (.func 101) #[.pointer (some ⟨p,0,none⟩)] #[]) wy:=fun wy=>by kernel_rfl
   clear hy;go_simp
  simp only [pX];have HKD:=iH hkd;clear hkd;refine rd1 8 ⟨some 19,_,_,_,_,none⟩ rfl (fun K hK=>?_);go_simp;refine (eE x v pf p m1 m2 m3 m4 b1 o1 c1 a2 c2 b3 o3 c3 am cm al cl lo W0 _ HP2 HKD).mono ?_;intro e w3 hres;rcases hres with ⟨hev,rfl,hb3,h5⟩ | ⟨y,d1,q1,d3,q3,hev,rfl,hpk,hsv,hlb,hlc,hbk,hs1,hs3,hb3⟩
  ·have HR:=iH (Md HV HKK hev)
   have hBp3:=hBp2.trans hb3;refine hK.out _ _ h5 (fun hS=>?_);clear hK K hev hb3 h5 HP2 HN2;refine tz 9 3 (.int .i64 3) rfl hS ?_;simp only [pX];refine td ?_;clear hS;go_wp2_with fail;go_ret;exact .inl ⟨3,by decide,HR,rfl,hBp3⟩
  ·have hBp3:=hBp2.trans hb3
   have hB3:Below W0.heap.size W0 w3:=HP2.out.hB.trans (hb3.mono HP2.out.hp);have HBK:=iH hbk;have HS1:=iH hs1;have HS3:=iH hs3;have HEV:=iH hev;refine hK.out _ _ (hbk.cell rfl) (fun hS=>?_);clear hK K hev hb3 hbk hs1 hs3;refine tz 9 3 (.int .i64 0) rfl hS ?_;simp only [pX];refine td ?_;clear hS;have HS2:Hid (SliceC SvcC 2 lo w3 a2 y.services):=by
    show SliceC _ _ _ _ _ _
    rw [hsv];exact HN2.out.below SvcC.holds hB3 nL
   have CT:=iH (El y d1 q1 a2 c2 d3 q3 lo w3 HS1 HS2 HS3 (by omega) (by rw [hsv];omega) (by omega));unfold ffA at CT;rw [hpk,hsv] at CT;have HPS:=iH (And.intro hpk hsv);clear hpk hsv HS2;go_wp2_with (refine wpList_load_mid rfl 41 _ rfl p 1 rfl (fgL x.pack d1 y.berths.length q1 a2 x.services.length c2 d3 y.copies.length q3) _ (chF HBK) Tryz.underlying41 rfl Ak ?_);refine CT.out.mono ?_;rintro e w4 ⟨rfl,hb4⟩;have hp3:p<w3.heap.size:=HBK.out.lt;have hBp4:=hBp3.trans (hb4.mono (lE hp3));have HBK4:=iH (HBK.out.below hb4 hp3);have HS14:=qS BrtC.holds HS1 hb4;have HS34:=qS CpyC.holds HS3 hb4;clear CT hb4 HBK HS1 HS3 hBp3 hB3
   cases hvy:Bj y with
   | false =>
    have HR:=iH (Mg HV HKK HEV hvy);clear hvy;go_wp2_with fail;go_ret;exact .inl ⟨2,by decide,HR,rfl,hBp4⟩
   | true =>
    have HR:=iH (Ms HV HKK HEV hvy);have HVY:=iH hvy;clear hvy;go_wp2_with fail;go_ret;exact .inr ⟨y,d1,q1,d3,q3,HR,HVY,rfl,HPS.out.1,HPS.out.2,HBK4,HS14,HS34,hBp4⟩
end Go.Proofs.YtihnjndnkgnmaaaGreat
