import Derived.Test.YtihnjndnkgnmaaaGreatHv1k1
import Derived.Test.YtihnjndnkgnmaaaGreatHv1k2
import Derived.Test.YtihnjndnkgnmaaaGreatHv1k3
set_option maxHeartbeats 40000000
namespace Go.Proofs.YtihnjndnkgnmaaaGreat
set_option maxRecDepth 100000
open Go.RowKit
theorem eN (x:Flt) (v:Evt) (a1:OA) (c1 b2 o2 c2:Nat) (a3:OA) (c3:Nat) (am:OA) (cm:Nat) (al:OA) (cl lo:Nat) (w:World) (n1:SliceC BrtC 6 lo w a1 x.berths) (n2:SliceC SvcC 2 lo w (some ⟨b2,o2,none⟩) x.services) (n3:SliceC CpyC 12 lo w a3 x.copies) (nm:SliceC StrC 1 lo w am v.berth.marks) (nl:SliceC LikC 2 lo w al v.copy.likes) (hvx:Bj x=true) (hlb:x.berths.length≤12) (hls:x.services.length≤30) (hlc:x.copies.length≤60) (hmk:∀ y∈x.berths,y.marks.length≤1048576) (hlk:∀ y∈x.copies,y.likes.length≤1048576) (hvm:v.berth.marks.length≤1048576) (hvl:v.copy.likes.length≤1048576) (z1:SzB [v.berth]) (z3:SzC [v.copy]) (za:v.at_.size≤maxLen) (hk0:Hid (v.kind=4)) :
  Calls Tryz.prog 21 #[.agg (ffA x a1 c1 (some ⟨b2,o2,none⟩) c2 a3 c3),.agg (eeA v am cm al cl)] w fun e w'=>Om x v w e w':=by
 have HZB:=iH (SzB.of n1);have HZC:=iH (SzC.of n3);have HZ1:=iH z1;have HZ3:=iH z3;have HZA:=iH za;have N1:=iH n1;have N2:=iH n2;have N3:=iH n3;have NM:=iH nm;have NL:=iH nl;have HV:=iH hvx;have HAB:=iH (Bx hvx).2.1;have HAC:=iH (Bm hvx).2.2.2.1;have HMK:=iH hmk;have HLK:=iH hlk;clear n1 n2 n3 nm nl hvx hmk hlk z1 z3 za;have h1:=Blk.alloc w (ffA x a1 c1 (some ⟨b2,o2,none⟩) c2 a3 c3) 41;have h2:Blk (w.heap.size+1) (eeA v am cm al cl) 50 ((w.alloc (Obj.cells (ffA x a1 c1 (some ⟨b2,o2,none⟩) c2 a3 c3) 41)).alloc (Obj.cells (eeA v am cm al cl) 50)):=by
  have:=Blk.alloc (w.alloc (Obj.cells (ffA x a1 c1 (some ⟨b2,o2,none⟩) c2 a3 c3) 41)) (eeA v am cm al cl) 50;simpa using this
 have HR3:Hid (Blk (w.heap.size+1+1) zzA 41 (((w.alloc (Obj.cells (ffA x a1 c1 (some ⟨b2,o2,none⟩) c2 a3 c3) 41)).alloc (Obj.cells (eeA v am cm al cl) 50)).alloc (Obj.cells zzA 41))):=by
  have:=Blk.alloc ((w.alloc (Obj.cells (ffA x a1 c1 (some ⟨b2,o2,none⟩) c2 a3 c3) 41)).alloc (Obj.cells (eeA v am cm al cl) 50)) zzA 41;show Blk _ _ _ _
  simpa using this
 have HF3:Hid (Blk w.heap.size (ffA x a1 c1 (some ⟨b2,o2,none⟩) c2 a3 c3) 41 (((w.alloc (Obj.cells (ffA x a1 c1 (some ⟨b2,o2,none⟩) c2 a3 c3) 41)).alloc (Obj.cells (eeA v am cm al cl) 50)).alloc (Obj.cells zzA 41))):=(h1.below ((Below.refl _ _).alloc nL _) h1.lt).below ((Below.refl _ _).alloc nL _) (by simp;omega);have HE3:=iH (h2.below ((Below.refl _ _).alloc nL (Obj.cells zzA 41)) h2.lt);have hB3:Below w.heap.size w (((w.alloc (Obj.cells (ffA x a1 c1 (some ⟨b2,o2,none⟩) c2 a3 c3) 41)).alloc (Obj.cells (eeA v am cm al cl) 50)).alloc (Obj.cells zzA 41)):=by go_grown
 clear h1 h2;go_enter Tryz.func21,Tryz.ntmps21;go_upto_region 1 with fail;generalize (((w.alloc (Obj.cells (ffA x a1 c1 (some ⟨b2,o2,none⟩) c2 a3 c3) 41)).alloc (Obj.cells (eeA v am cm al cl) 50)).alloc (Obj.cells zzA 41))=w3 at *;go_wp2_with (refine lk Bw HF3 ?_);refine (Ey x a1 c1 b2 o2 c2 a3 c3 lo _ (N1.out.below BrtC.holds hB3 nL) (N2.out.below SvcC.holds hB3 nL) (N3.out.below CpyC.holds hB3 nL) (by omega) (by omega) (by omega) HMK HLK).mono ?_;rintro e w4 ⟨d1,q1,g2,q2,d3,q3,bs,H,wB,rfl,hsf,hs1,hH1,hH2,hwB,hkB,hs2,hg2,hoc,hb4⟩;have HSF:=iH hsf;have HS1:=iH hs1;have HS2:=iH hs2;have HOC:=iH hoc;have hHw:w.heap.size≤w3.heap.size:=hB3.size;have HRL:w.heap.size+1+1<w3.heap.size:=HR3.out.lt;have HKB:=iH hkB;have HWB:=iH (And.intro hwB hg2);have hB4:=qt hB3 hb4;have hW34:w3.heap.size≤w4.heap.size:=hb4.size;have HE4:=HE3.out.below hb4 HE3.out.lt;have HR4:=HR3.out.below hb4 HR3.out.lt;have hr4:=HR4.lt;have hza:=Blk.alloc w4 zzA 41;have HTS:Hid ((w4.alloc (Obj.cells zzA 41)).there w4.heap.size 0 4):=hza.there;obtain ⟨w5,HW5⟩:∃ w5,Hid (w5=(w4.alloc (Obj.cells zzA 41)).setCells w4.heap.size 0 (ffL x d1 q1 (some ⟨g2,0,none⟩) q2 d3 q3)):=⟨_,rfl⟩;have hbx:Below w4.heap.size w4 w5:=by
  rw [HW5.out];exact Ac nL _ _ _ ((Below.refl _ w4).alloc nL _)
 have hk5:Blk w4.heap.size (ffA x d1 q1 (some ⟨g2,0,none⟩) q2 d3 q3) 41 w5:=by
  rw [HW5.out];exact hza.setAll (ffA x d1 q1 (some ⟨g2,0,none⟩) q2 d3 q3) rfl
 obtain ⟨gx,hgx⟩:∃ gx,gx=w4.heap.size:=⟨_,rfl⟩;obtain ⟨eb,heb⟩:∃ eb,eb=w.heap.size+1:=⟨_,rfl⟩;obtain ⟨rb,hrb⟩:∃ rb,rb=w.heap.size+1+1:=⟨_,rfl⟩;have HEW:Hid (EvW x v am cm al cl gx eb rb (.slice d1 x.berths.length q1) (.slice (some ⟨g2,0,none⟩) x.services.length q2) (.slice d3 x.copies.length q3) w w4 w5):=⟨by rw [hgx];exact hk5,by rw [heb];exact HE4.below hbx HE4.lt,by rw [hrb];exact HR4.below hbx HR4.lt,qt hB4 hbx,by rw [hgx];exact hbx,by omega,by omega,by omega,by omega⟩;have HGX:Hid (w4.heap.size=gx):=hgx.symm;go_upto_region 2 with (refine Ad rfl 41 _ _ rfl w4.heap.size 0 (ffA x d1 q1 (some ⟨g2,0,none⟩) q2 d3 q3) rfl rfl HTS Ak (by simp [Value.oneCell']) w5 HW5 ?_);clear HTS HW5 hza hbx hk5 HE4 HR4 hB4 HF3 HE3 HR3 hsf hs1 hs2 hoc hb4 hr4 hkB hwB hg2;rw [← HGX.out] at hgx;clear hgx;rw [HGX.out,← hrb,← heb];have HRB0:rb<w3.heap.size:=by rw [hrb];exact HRL
 clear heb hrb HRL;have HRB:Hid (rb<w3.heap.size):=HRB0;have _hv:=And.intro hvm hvl;clear _hv;have hkd:v.kind=4:=hk0.out;have k0:w5.cell? ⟨eb,0,none⟩=some (.int .i64 4):=by rw [← hkd];exact HEW.out.he.cell rfl
 have k19:w5.cell? ⟨eb,19,none⟩=some (.string v.name):=HEW.out.he.cell rfl;have HCP:Hid (SliceC CpyC 12 bs w4 d3 x.copies):=HOC.out.copies HZC (by unfold maxLen;omega);have HLX:=iH HEW.out.hx.rangeA;go_upto_region 30 with fail;go_wp2_with (refine lr Bw HLX ?_);refine (Pa x d1 q1 (some ⟨g2,0,none⟩) q2 d3 q3 bs v.name _ (HCP.out.below CpyC.holds (B:=gx) HEW.out.h4 (Nat.le_of_eq HGX)) (by omega)).mono ?_;rintro e w6 ⟨rfl,hb6⟩;have HEW6:=iH (HEW.out.below hb6);clear hb6 k0 k19 HEW HLX HCP
 cases hj:Asq (cpN x) v.name x.copies.length with
 | none =>
  have HEV:Hid (evF x v=none):=by
   show evF x v=none
   simp [evF,hkd,hj]
  rw [aQ hj];clear hj;go_upto_region 32 with fail;have HTR:=iH HEW6.out.hr.there;have HLX:=iH HEW6.out.hx.rangeA;obtain ⟨wz,HWZ⟩:∃ w',Hid (w'=w6.setCells rb 0 (ffL x d1 q1 (some ⟨g2,0,none⟩) q2 d3 q3)):=⟨_,rfl⟩;have HRZ:Hid (wz.rangeAt rb 0 (ffL x d1 q1 (some ⟨g2,0,none⟩) q2 d3 q3)):=by
   show World.rangeAt _ _ _ _
   rw [HWZ.out];exact World.rangeAt_setCells_same _ _ _ _ HTR
  have hBZ:Below w.heap.size w wz:=by
   have k1:=HEW6.out.i1;have k2:=HEW6.out.i2;rw [HWZ.out];exact Ac (by omega) _ _ _ HEW6.out.hb
  go_wp2_with (first | (refine lr Bw HLX ?_) | (refine Ad rfl 41 _ _ rfl rb 0 (ffA x d1 q1 (some ⟨g2,0,none⟩) q2 d3 q3) rfl rfl HTR Ak (by simp [Value.oneCell']) wz HWZ ?_));exact bodyPost_ret (Bn rfl _ _ rb (ffL x d1 q1 (some ⟨g2,0,none⟩) q2 d3 q3) _ rfl HRZ Tryz.underlying41 rfl Ak) rfl (.inl ⟨HEV,_,_,_,_,rfl,by simp [Value.oneCell'],hBZ⟩)
 | some k =>
  obtain ⟨hic,c,hc,hcn⟩:=Rh HAC hj;rw [hic];have hk0:¬ ((k:Nat):Int)<0:=by omega
  have hkl:=Ae hc;have HEV:Hid (evF x v=some { x with copies:=Ce x.copies k }):=by
   show evF x v=_
   simp [evF,hkd,hj]
  clear hj hic hcn hkd hc;go_upto_region 33 with fail;obtain ⟨i0,hi,hz0,hz1,hz2⟩:=info_parts Fq;have HII:=iH hi;clear hi;obtain ⟨g3,rfl⟩:∃ g3,d3=some ⟨g3,0,none⟩:=by
   obtain ⟨_,h9,_⟩:=HOC.out;rcases SlF.of h9 with ⟨_,h8,_⟩ | ⟨g,h8,_⟩
   ·omega
   ·exact ⟨g,h8⟩
  obtain ⟨hga,hgb,hcq,hcm⟩:bs≤g3∧g3<gx∧x.copies.length≤q3∧q3≤maxLen:=by
   obtain ⟨_,hco,_⟩:=HOC.out;have h8:=hco.lt g3 rfl;rw [HGX.out] at h8;rcases SlF.of hco with ⟨h9,_⟩ | ⟨_,_,h9⟩
   ·cases h9
   ·exact ⟨h8.1,h8.2,h9⟩
  unfold maxLen at hcm;obtain ⟨cs,hc1,hc2,hc3,hc4⟩:=Hr (HOC.out.copies HZC (by unfold maxLen;omega));have HC1:=iH hc1;have HC2:=iH hc2;have HC3:=iH hc3;have HC4:Hid (EAt vCp Cpy.likes LikC 2 12 bs w4 cs x.copies):=hc4;clear hc1 hc2 hc3 hc4;have HCT:Hid (∀ wy,EvW x v am cm al cl gx eb rb (.slice d1 x.berths.length q1) (.slice (some ⟨g2,0,none⟩) x.services.length q2) (.slice (some ⟨g3,0,none⟩) x.copies.length q3) w w4 wy→∀ o u,w4.cell? ⟨g3,o,none⟩=some u→wy.cell? ⟨g3,o,none⟩=some u):=fun wy hy o u h=>(hy.h4.cell (p:=⟨g3,o,none⟩) hgb).trans h
  have HCW:Hid (∀ wy,EvW x v am cm al cl gx eb rb (.slice d1 x.berths.length q1) (.slice (some ⟨g2,0,none⟩) x.services.length q2) (.slice (some ⟨g3,0,none⟩) x.copies.length q3) w w4 wy→∀ j u,cs[j]?=some u→wy.cell? ((⟨g3,0,none⟩:Addr).add j)=some u):=fun wy hy j u h=>by
   have h9:=HC2.out j u h;rw [Addr.add_mid] at h9 ⊢;exact HCT.out wy hy _ u h9
  have HCW2:Hid (∀ wy,EvW x v am cm al cl gx eb rb (.slice d1 x.berths.length q1) (.slice (some ⟨g2,0,none⟩) x.services.length q2) (.slice (some ⟨g3,0,none⟩) x.copies.length q3) w w4 wy→∀ (r j:Nat) u,w4.cell? ((⟨g3,r,none⟩:Addr).add j)=some u→wy.cell? ((⟨g3,r,none⟩:Addr).add j)=some u):=fun wy hy r j u h=>by
   rw [Addr.add_mid] at h ⊢;exact HCT.out wy hy _ u h
  refine Av (S:=fun wy=>Blk gx (ffA x d1 q1 (some ⟨g2,0,none⟩) q2 (some ⟨g3,0,none⟩) q3) 41 wy) 13 (by kernel_rfl) HEW6.out.hx.drew (fun hS=>?_);have HN:=iH HEW6.out.drew;clear HEW6;generalize w6.drew=wn at *;refine tv 1 ⟨some 180,_,_,_,_,none⟩ (.pointer (some ⟨gx,3,none⟩)) rfl (by rfl) ?_ hS ?_
  ·intro wy hy
   clear hy;go_simp
  simp only [pX];refine tv 2 ⟨some 181,_,_,_,_,none⟩ (.slice (some ⟨g3,0,none⟩) x.copies.length q3) rfl (by rfl) ?_ hS ?_
  ·intro wy hy
   have h0:wy.cell? ⟨gx,3,none⟩=some (.slice (some ⟨g3,0,none⟩) x.copies.length q3):=Blk.cell hy rfl;clear hy;go_simp
  simp only [pX];refine tv 3 ⟨some 182,_,_,_,_,none⟩ (.int .i64 k) rfl (by rfl) ?_ hS ?_
  ·intro wy hy
   clear hy;go_simp
  simp only [pX];refine tv 4 ⟨some 183,_,_,_,_,none⟩ (.slice (some ⟨g3,0,none⟩) k q3) rfl (by rfl) ?_ hS ?_
  ·intro wy hy
   clear hy
   (go_simp;try omega)
  simp only [pX];refine tv 6 ⟨some 185,_,_,_,_,none⟩ (.pointer (some ⟨gx,3,none⟩)) rfl (by rfl) ?_ hS ?_
  ·intro wy hy
   clear hy;go_simp
  simp only [pX];refine tv 7 ⟨some 186,_,_,_,_,none⟩ (.slice (some ⟨g3,0,none⟩) x.copies.length q3) rfl (by rfl) ?_ hS ?_
  ·intro wy hy
   have h0:wy.cell? ⟨gx,3,none⟩=some (.slice (some ⟨g3,0,none⟩) x.copies.length q3):=Blk.cell hy rfl;clear hy;go_simp
  simp only [pX];refine tv 8 ⟨some 187,_,_,_,_,none⟩ (.int .i64 k) rfl (by rfl) ?_ hS ?_
  ·intro wy hy
   clear hy;go_simp
  simp only [pX];refine tv 9 ⟨some 188,_,_,_,_,none⟩ (.int .i64 ((k+1:Nat):Int)) rfl (by rfl) ?_ hS ?_
  ·intro wy hy
   clear hy
   first | (go_simp;done) | (go_simp;rw [IntKind.wrap_i64];omega) | (go_simp;omega)
  simp only [pX];obtain ⟨ro,hrb,hrc⟩:=Gy (w:=w4) (b:=g3) (o:=0) (k:=k+1) (cap:=q3) (len:=x.copies.length) (n:=12) (cs:=cs) HC1 hcq (by omega) HC2;have HRC:=iH hrc;clear hrc;refine tv 10 ⟨some 189,_,_,_,_,none⟩ (.slice (some ⟨g3,ro,none⟩) (x.copies.length - (k+1)) (q3 - (k+1))) rfl (by rfl) ?_ hS ?_
  ·intro wy hy
   clear hy
   (rw [← hrb];go_simp;try omega)
  simp only [pX];clear hrb;refine ru1 0 ⟨some 179,_,_,_,_,none⟩ rfl (fun KK hKK=>?_);go_simp;have hal:=(Below.refl _ wn).alloc nL (Obj.cells #[] 48);have HRw:Hid ((wn.alloc (Obj.cells #[] 48)).ownsRow wn.heap.size 48 12 (.slice (some ⟨wn.heap.size,0,none⟩) 0 0) 0 []):=World.ownsRow_made wn #[] 0 nL (zL) rfl;have hgn:gx<wn.heap.size:=HN.out.hx.lt;replace HN:=iH (HN.out.below hal);refine hKK.out _ _ HN.out.hx (fun hS=>?_);clear hKK KK hal;generalize wn.heap.size=h0 at *;generalize wn.alloc (Obj.cells #[] 48)=wo at *;have HH0:Hid (h0≤wo.heap.size):=by have h9:=(HRw.out.lt h0 rfl).2;exact lE h9
  refine ru1 5 ⟨some 184,_,_,_,_,none⟩ rfl (fun KK hKK=>?_);rw [if_pos (by rfl)];refine Cp (.tmp 179) (.tmp 183) 39 (by rfl) h0 48 i0 _ 12 160 Tryz.underlying39 HII hz0 hz1 hz2 rfl (by decide) _ 0 _ (by rfl) HRw ⟨g3,0,none⟩ k q3 (cs.take (k*12)) (by rfl) (by rw [List.length_take,HC1.out];have h9:=Nat.mul_le_mul_right 12 (lE hkl);omega) (fun j u hj=>HCW.out wo HN j u (by have h9:=Ae hj;simp only [List.length_take] at h9;rwa [List.getElem?_take_of_lt (by omega)] at hj)) (fun u hu=>HC3.out u (List.mem_of_mem_take hu)) (by unfold maxLen;omega) (by omega) (by have h9:=HRw.out.lt;have h8:=HH0.out;exact h8) ?_;intro v' wp hown hgrow hnil hblk;have hv:v'≠.slice none 0 0:=(fun e=>by have h9:=(hnil.1 e).1;cases h9);rw [Nat.zero_add,List.nil_append] at hown;obtain ⟨e1,p1,rfl⟩:=Dj hown hv;have hrow:∀ r,Value.ownBlock _=some r→gx<r:=fun r e=>lL hgn (HRw.out.lt r e).1
  replace HN:=iH (HN.out.grown hgrow hrow);replace HRw:=iH hown;have HH1:=iH (lT HH0 hgrow.size);refine hKK.out _ _ HN.out.hx (fun hS=>?_);clear hKK KK hown hgrow hnil hblk hv hrow HH0;have HH0:=HH1;clear HH1;simp only [pX];refine ru1 11 ⟨some 190,_,_,_,_,none⟩ rfl (fun KK hKK=>?_);rw [if_pos (by rfl)];refine Cp (.tmp 184) (.tmp 189) 39 (by rfl) h0 48 i0 _ 12 160 Tryz.underlying39 HII hz0 hz1 hz2 rfl (by decide) _ k _ (by rfl) HRw ⟨g3,ro,none⟩ (x.copies.length - (k+1)) (q3 - (k+1)) (cs.drop ((k+1)*12)) (by rfl) (by rw [List.length_drop,HC1.out,Nat.sub_mul]) (fun j u hj=>HCW2.out wp HN ro j u (HRC j u hj)) (fun u hu=>HC3.out u (List.mem_of_mem_drop hu)) (by unfold maxLen;omega) (by omega) (by have h9:=HRw.out.lt;have h8:=HH0.out;exact h8) ?_;intro v' wq hown hgrow hnil hblk;have hv:v'≠.slice none 0 0:=(fun e=>by have h9:=(hnil.1 e).1;cases h9);skip;obtain ⟨e2,p2,rfl⟩:=Dj hown hv;have hrow:∀ r,Value.ownBlock _=some r→gx<r:=fun r e=>lL hgn (HRw.out.lt r e).1
  replace HN:=iH (HN.out.grown hgrow hrow);replace HRw:=iH hown;have HH1:=iH (lT HH0 hgrow.size);refine hKK.out _ _ HN.out.hx (fun hS=>?_);clear hKK KK hown hgrow hnil hblk hv hrow HH0;have HH0:=HH1;clear HH1;simp only [pX];refine tv 12 ⟨some 191,_,_,_,_,none⟩ (.pointer (some ⟨gx,3,none⟩)) rfl (by rfl) ?_ hS ?_
  ·intro wy hy
   clear hy;go_simp
  simp only [pX];have kz:=HN.out.hx.cell (o:=3) rfl;have fz:=HN.out.hx.frozen 3;refine Bb (rs:=[13]) (by kernel_rfl) (by simp) (AllReadyU.last (o:=⟨none,_,_,_,_,none⟩) rfl (fun KK hKK=>?_));go_simp;clear kz fz;have HN9:=iH (HN.out.set3 (.slice (some ⟨e2,0,none⟩) (k+(x.copies.length - (k+1))) p2));have HR9:=iH (Cb (i:=3) HRw hgn (.slice (some ⟨e2,0,none⟩) (k+(x.copies.length - (k+1))) p2));refine hKK.out _ _ (Bl (by kernel_rfl) ?_ _);clear hKK KK hS HN HRw;generalize wq.setCell ⟨gx,3,none⟩ (.slice (some ⟨e2,0,none⟩) (k+(x.copies.length - (k+1))) p2)=w9 at *;have hcl:k+(x.copies.length - (k+1))=(Ce x.copies k).length:=by unfold Ce;rw [List.length_append,List.length_take,List.length_drop];omega
  rw [hcl] at HN9 HR9 ⊢;go_upto_region 39 with fail;have HTR:=iH HN9.out.hr.there;have HLX:=iH HN9.out.hx.rangeA;obtain ⟨wz,HWZ⟩:∃ w',Hid (w'=w9.setCells rb 0 (fgL x.pack d1 x.berths.length q1 (some ⟨g2,0,none⟩) x.services.length q2 (some ⟨e2,0,none⟩) (Ce x.copies k).length p2)):=⟨_,rfl⟩;have HRZ:Hid (wz.rangeAt rb 0 (fgL x.pack d1 x.berths.length q1 (some ⟨g2,0,none⟩) x.services.length q2 (some ⟨e2,0,none⟩) (Ce x.copies k).length p2)):=by
   show World.rangeAt _ _ _ _
   rw [HWZ.out];exact World.rangeAt_setCells_same _ _ _ _ HTR
  have hBZ:Below w.heap.size w wz:=by
   have k1:=HN9.out.i1;have k2:=HN9.out.i2;rw [HWZ.out];exact Ac (by omega) _ _ _ HN9.out.hb
  have hRB:rb<w3.heap.size:=HRB.out;have HKV:Hid (Keeps w3.heap.size w4 wz):=by
   show Keeps _ _ _
   rw [HWZ.out];have h9:Keeps w3.heap.size w4 w9:=Keeps.of_below HN9.out.h4 (Nat.le_of_eq HGX) _;exact h9.trans (Keeps.setCells hRB _ _ _)
  have HKW:Hid (Keeps H wB wz):=HKB.out.trans (HKV.out.up hH1);have HRz:Hid (wz.ownsRow h0 48 12 (.slice (some ⟨e2,0,none⟩) (Ce x.copies k).length p2) (Ce x.copies k).length (cs.take (k*12)++cs.drop ((k+1)*12))):=by
   show World.ownsRow _ _ _ _ _ _ _
   rw [HWZ.out];exact Doq HR9 (by have h9:=HN9.out.i3;omega) _
  have HEz:Hid (EAt vCp Cpy.likes LikC 2 12 bs wz (cs.take (k*12)++cs.drop ((k+1)*12)) (Ce x.copies k)):=by
   show EAt _ _ _ _ _ _ _ _ _
   have e1:=HC4.out.take Be k;have e3:=HC4.out.drop (k+1);have e4:=e1.app Be (by rw [List.length_take,List.length_take,HC1.out,Nat.min_eq_left (lE hkl),Nat.min_eq_left (Nat.mul_le_mul_right 12 (lE hkl))]) e3;exact e4.keep LikC.holds (HKV.out.up (lT hH1 hH2))
  obtain ⟨d9,q9,e9,hsl⟩:=Hg HRz (by omega) HEz (fun y hy=>HZC.out y (Ob hy)) (by have h9:=Gz x.copies k;unfold maxLen;omega);have e8:some ⟨e2,0,none⟩=d9:=by injection e9
  subst e8;have HSL:=iH hsl;clear hsl e9;go_wp2_with (first | (refine lr Bw HLX ?_) | (refine Ad rfl 41 _ _ rfl rb 0 (fgA x.pack d1 x.berths.length q1 (some ⟨g2,0,none⟩) x.services.length q2 (some ⟨e2,0,none⟩) (Ce x.copies k).length p2) rfl rfl HTR Ak (by simp [Value.oneCell']) wz HWZ ?_));exact bodyPost_ret (Bn rfl _ _ rb (fgL x.pack d1 x.berths.length q1 (some ⟨g2,0,none⟩) x.services.length q2 (some ⟨e2,0,none⟩) (Ce x.copies k).length p2) _ rfl HRZ Tryz.underlying41 rfl Ak) rfl (.inr ⟨{ x with copies:=Ce x.copies k },d1,q1,some ⟨g2,0,none⟩,q2,some ⟨e2,0,none⟩,p2,HEV,rfl,(HS1.out.keep BrtC.holds HKW (lT hHw hH1)),(HS2.out.keep SvcC.holds HKV hHw),HSL.out.keep CpyC.holds (Keeps.refl _ _) (by omega),hBZ⟩)
theorem fD (x:Flt) (v:Evt) (a1:OA) (c1 b2 o2 c2:Nat) (a3:OA) (c3:Nat) (am:OA) (cm:Nat) (al:OA) (cl lo:Nat) (w:World) (n1:SliceC BrtC 6 lo w a1 x.berths) (n2:SliceC SvcC 2 lo w (some ⟨b2,o2,none⟩) x.services) (n3:SliceC CpyC 12 lo w a3 x.copies) (nm:SliceC StrC 1 lo w am v.berth.marks) (nl:SliceC LikC 2 lo w al v.copy.likes) (hvx:Bj x=true) (hlb:x.berths.length≤12) (hls:x.services.length≤30) (hlc:x.copies.length≤60) (hmk:∀ y∈x.berths,y.marks.length≤1048576) (hlk:∀ y∈x.copies,y.likes.length≤1048576) (hvm:v.berth.marks.length≤1048576) (hvl:v.copy.likes.length≤1048576) (z1:SzB [v.berth]) (z3:SzC [v.copy]) (za:v.at_.size≤maxLen) (hk0:Hid (v.kind=5)) :
  Calls Tryz.prog 21 #[.agg (ffA x a1 c1 (some ⟨b2,o2,none⟩) c2 a3 c3),.agg (eeA v am cm al cl)] w fun e w'=>Om x v w e w':=by
 have HZB:=iH (SzB.of n1);have HZC:=iH (SzC.of n3);have HZ1:=iH z1;have HZ3:=iH z3;have HZA:=iH za;have N1:=iH n1;have N2:=iH n2;have N3:=iH n3;have NM:=iH nm;have NL:=iH nl;have HV:=iH hvx;have HAB:=iH (Bx hvx).2.1;have HAC:=iH (Bm hvx).2.2.2.1;have HMK:=iH hmk;have HLK:=iH hlk;clear n1 n2 n3 nm nl hvx hmk hlk z1 z3 za;have h1:=Blk.alloc w (ffA x a1 c1 (some ⟨b2,o2,none⟩) c2 a3 c3) 41;have h2:Blk (w.heap.size+1) (eeA v am cm al cl) 50 ((w.alloc (Obj.cells (ffA x a1 c1 (some ⟨b2,o2,none⟩) c2 a3 c3) 41)).alloc (Obj.cells (eeA v am cm al cl) 50)):=by
  have:=Blk.alloc (w.alloc (Obj.cells (ffA x a1 c1 (some ⟨b2,o2,none⟩) c2 a3 c3) 41)) (eeA v am cm al cl) 50;simpa using this
 have HR3:Hid (Blk (w.heap.size+1+1) zzA 41 (((w.alloc (Obj.cells (ffA x a1 c1 (some ⟨b2,o2,none⟩) c2 a3 c3) 41)).alloc (Obj.cells (eeA v am cm al cl) 50)).alloc (Obj.cells zzA 41))):=by
  have:=Blk.alloc ((w.alloc (Obj.cells (ffA x a1 c1 (some ⟨b2,o2,none⟩) c2 a3 c3) 41)).alloc (Obj.cells (eeA v am cm al cl) 50)) zzA 41;show Blk _ _ _ _
  simpa using this
 have HF3:Hid (Blk w.heap.size (ffA x a1 c1 (some ⟨b2,o2,none⟩) c2 a3 c3) 41 (((w.alloc (Obj.cells (ffA x a1 c1 (some ⟨b2,o2,none⟩) c2 a3 c3) 41)).alloc (Obj.cells (eeA v am cm al cl) 50)).alloc (Obj.cells zzA 41))):=(h1.below ((Below.refl _ _).alloc nL _) h1.lt).below ((Below.refl _ _).alloc nL _) (by simp;omega);have HE3:=iH (h2.below ((Below.refl _ _).alloc nL (Obj.cells zzA 41)) h2.lt);have hB3:Below w.heap.size w (((w.alloc (Obj.cells (ffA x a1 c1 (some ⟨b2,o2,none⟩) c2 a3 c3) 41)).alloc (Obj.cells (eeA v am cm al cl) 50)).alloc (Obj.cells zzA 41)):=by go_grown
 clear h1 h2;go_enter Tryz.func21,Tryz.ntmps21;go_upto_region 1 with fail;generalize (((w.alloc (Obj.cells (ffA x a1 c1 (some ⟨b2,o2,none⟩) c2 a3 c3) 41)).alloc (Obj.cells (eeA v am cm al cl) 50)).alloc (Obj.cells zzA 41))=w3 at *;go_wp2_with (refine lk Bw HF3 ?_);refine (Ey x a1 c1 b2 o2 c2 a3 c3 lo _ (N1.out.below BrtC.holds hB3 nL) (N2.out.below SvcC.holds hB3 nL) (N3.out.below CpyC.holds hB3 nL) (by omega) (by omega) (by omega) HMK HLK).mono ?_;rintro e w4 ⟨d1,q1,g2,q2,d3,q3,bs,H,wB,rfl,hsf,hs1,hH1,hH2,hwB,hkB,hs2,hg2,hoc,hb4⟩;have HSF:=iH hsf;have HS1:=iH hs1;have HS2:=iH hs2;have HOC:=iH hoc;have hHw:w.heap.size≤w3.heap.size:=hB3.size;have HRL:w.heap.size+1+1<w3.heap.size:=HR3.out.lt;have HKB:=iH hkB;have HWB:=iH (And.intro hwB hg2);have hB4:=qt hB3 hb4;have hW34:w3.heap.size≤w4.heap.size:=hb4.size;have HE4:=HE3.out.below hb4 HE3.out.lt;have HR4:=HR3.out.below hb4 HR3.out.lt;have hr4:=HR4.lt;have hza:=Blk.alloc w4 zzA 41;have HTS:Hid ((w4.alloc (Obj.cells zzA 41)).there w4.heap.size 0 4):=hza.there;obtain ⟨w5,HW5⟩:∃ w5,Hid (w5=(w4.alloc (Obj.cells zzA 41)).setCells w4.heap.size 0 (ffL x d1 q1 (some ⟨g2,0,none⟩) q2 d3 q3)):=⟨_,rfl⟩;have hbx:Below w4.heap.size w4 w5:=by
  rw [HW5.out];exact Ac nL _ _ _ ((Below.refl _ w4).alloc nL _)
 have hk5:Blk w4.heap.size (ffA x d1 q1 (some ⟨g2,0,none⟩) q2 d3 q3) 41 w5:=by
  rw [HW5.out];exact hza.setAll (ffA x d1 q1 (some ⟨g2,0,none⟩) q2 d3 q3) rfl
 obtain ⟨gx,hgx⟩:∃ gx,gx=w4.heap.size:=⟨_,rfl⟩;obtain ⟨eb,heb⟩:∃ eb,eb=w.heap.size+1:=⟨_,rfl⟩;obtain ⟨rb,hrb⟩:∃ rb,rb=w.heap.size+1+1:=⟨_,rfl⟩;have HEW:Hid (EvW x v am cm al cl gx eb rb (.slice d1 x.berths.length q1) (.slice (some ⟨g2,0,none⟩) x.services.length q2) (.slice d3 x.copies.length q3) w w4 w5):=⟨by rw [hgx];exact hk5,by rw [heb];exact HE4.below hbx HE4.lt,by rw [hrb];exact HR4.below hbx HR4.lt,qt hB4 hbx,by rw [hgx];exact hbx,by omega,by omega,by omega,by omega⟩;have HGX:Hid (w4.heap.size=gx):=hgx.symm;go_upto_region 2 with (refine Ad rfl 41 _ _ rfl w4.heap.size 0 (ffA x d1 q1 (some ⟨g2,0,none⟩) q2 d3 q3) rfl rfl HTS Ak (by simp [Value.oneCell']) w5 HW5 ?_);clear HTS HW5 hza hbx hk5 HE4 HR4 hB4 HF3 HE3 HR3 hsf hs1 hs2 hoc hb4 hr4 hkB hwB hg2;rw [← HGX.out] at hgx;clear hgx;rw [HGX.out,← hrb,← heb];have HRB0:rb<w3.heap.size:=by rw [hrb];exact HRL
 clear heb hrb HRL;have HRB:Hid (rb<w3.heap.size):=HRB0;have _hv:=And.intro hvm hvl;clear _hv;have hkd:v.kind=5:=hk0.out;have k0:w5.cell? ⟨eb,0,none⟩=some (.int .i64 5):=by rw [← hkd];exact HEW.out.he.cell rfl
 have k19:w5.cell? ⟨eb,19,none⟩=some (.string v.name):=HEW.out.he.cell rfl;have k20:w5.cell? ⟨eb,20,none⟩=some (.string v.at_):=HEW.out.he.cell rfl;have HCP:Hid (SliceC CpyC 12 bs w4 d3 x.copies):=HOC.out.copies HZC (by unfold maxLen;omega);have HLX:=iH HEW.out.hx.rangeA;go_upto_region 35 with fail;go_wp2_with (refine lr Bw HLX ?_);refine (Pa x d1 q1 (some ⟨g2,0,none⟩) q2 d3 q3 bs v.name _ (HCP.out.below CpyC.holds (B:=gx) HEW.out.h4 (Nat.le_of_eq HGX)) (by omega)).mono ?_;rintro e w6 ⟨rfl,hb6⟩;have HEW6:=iH (HEW.out.below hb6);clear hb6 k0 k19 k20 HEW HLX;have k20:w6.cell? ⟨eb,20,none⟩=some (.string v.at_):=HEW6.out.he.cell rfl;have kx0:w6.cell? ⟨gx,0,none⟩=some (.bool x.pack):=HEW6.out.hx.cell rfl;have kx1:w6.cell? ⟨gx,1,none⟩=some (.slice d1 x.berths.length q1):=HEW6.out.hx.cell rfl;have kx2:w6.cell? ⟨gx,2,none⟩=some (.slice (some ⟨g2,0,none⟩) x.services.length q2):=HEW6.out.hx.cell rfl;have kx3:w6.cell? ⟨gx,3,none⟩=some (.slice d3 x.copies.length q3):=HEW6.out.hx.cell rfl;have HG2:Hid (w3.heap.size≤g2∨x.services=[]):=by
  rcases HS2.out.2 with h9 | ⟨b9,o9,e9,⟨h8,_⟩,_⟩
  ·exact .inr h9
  ·cases e9
   exact .inl h8
 cases hj:Asq (cpN x) v.name x.copies.length with
 | none =>
  have HEV:Hid (evF x v=none):=by
   show evF x v=none
   simp [evF,hkd,hj]
  rw [aQ hj];clear hj;go_upto_region 37 with fail;clear k20 kx0 kx1 kx2 kx3;have HTR:=iH HEW6.out.hr.there;have HLX:=iH HEW6.out.hx.rangeA;obtain ⟨wz,HWZ⟩:∃ w',Hid (w'=w6.setCells rb 0 (ffL x d1 q1 (some ⟨g2,0,none⟩) q2 d3 q3)):=⟨_,rfl⟩;have HRZ:Hid (wz.rangeAt rb 0 (ffL x d1 q1 (some ⟨g2,0,none⟩) q2 d3 q3)):=by
   show World.rangeAt _ _ _ _
   rw [HWZ.out];exact World.rangeAt_setCells_same _ _ _ _ HTR
  have hBZ:Below w.heap.size w wz:=by
   have k1:=HEW6.out.i1;have k2:=HEW6.out.i2;rw [HWZ.out];exact Ac (by omega) _ _ _ HEW6.out.hb
  go_wp2_with (first | (refine lr Bw HLX ?_) | (refine Ad rfl 41 _ _ rfl rb 0 (ffA x d1 q1 (some ⟨g2,0,none⟩) q2 d3 q3) rfl rfl HTR Ak (by simp [Value.oneCell']) wz HWZ ?_));exact bodyPost_ret (Bn rfl _ _ rb (ffL x d1 q1 (some ⟨g2,0,none⟩) q2 d3 q3) _ rfl HRZ Tryz.underlying41 rfl Ak) rfl (.inl ⟨HEV,_,_,_,_,rfl,by simp [Value.oneCell'],hBZ⟩)
 | some k =>
  obtain ⟨hic,c,hc,hcn⟩:=Rh HAC hj;rw [hic];have hk0:¬ ((k:Nat):Int)<0:=by omega
  have hkl:=Ae hc;have HJ:=iH hj;have HKD:=iH hkd;clear hj hic hcn hkd;have HSZ:Hid (SzC (x.copies.set k { c with at_:=v.at_ })):=by
   intro y hy;have hz:=HZC.out c (List.mem_of_getElem? hc);rcases List.mem_or_eq_of_mem_set hy with h | h
   ·exact HZC.out y h
   ·subst h
    exact ⟨hz.1,hz.2.1,hz.2.2.1,hz.2.2.2.1,hz.2.2.2.2.1,HZA⟩
  by_cases hat:v.at_=Gn
  ·have HEV:Hid (evF x v=some { x with copies:=Du x.copies k v.at_ }):=by
    show evF x v=_
    simp [evF,HKD.out,HJ.out,hat]
   have ht:=Gf hat;have ht0:v.at_.toList.isEmpty=true:=by rw [hat,ByteArray.toList_eq];rfl
   clear hat;go_upto_region 38 with fail;clear ht ht0 k20 kx0 kx1 kx2 kx3;obtain ⟨g3,rfl⟩:∃ g3,d3=some ⟨g3,0,none⟩:=by
    obtain ⟨_,h9,_⟩:=HOC.out;rcases SlF.of h9 with ⟨_,h8,_⟩ | ⟨g,h8,_⟩
    ·omega
    ·exact ⟨g,h8⟩
   have HOn:Hid (Kp bs w6 (.slice (some ⟨g3,0,none⟩) x.copies.length q3) x.copies):=HOC.out.below LikC.holds (by rw [HGX.out];exact HEW6.out.h4);obtain ⟨hg3a,hg3b⟩:bs≤g3∧g3<gx:=by
    obtain ⟨_,h9,_⟩:=HOC.out;have h8:=h9.lt g3 rfl;rw [HGX.out] at h8;exact h8
   obtain ⟨kz,fz⟩:w6.cell? ⟨g3,k*12+11,none⟩=some (.string c.at_)∧w6.frozen? ⟨g3,k*12+11,none⟩=false:=by
    obtain ⟨cs9,h9,h8⟩:=HOn.out;obtain ⟨ae,ce,p1,_⟩:=h8 k c hc;have h7:=p1 11 _ rfl;have h6:=h9.cellAt (k*12+11) (by have h5:=Ae h7;have h4:=h9.1;omega);rw [h7] at h6;exact ⟨by simpa using h6,by simpa using h9.frozenAt (k*12+11)⟩
   have HKc:Hid (EvK x v am cm al cl gx eb rb bs H g2 (.slice d1 x.berths.length q1) (.slice (some ⟨g2,0,none⟩) x.services.length q2) (.slice (some ⟨g3,0,none⟩) x.copies.length q3) w wB w6):=⟨HEW6.out.hx,HEW6.out.he,HEW6.out.hr,HEW6.out.hb,HKB.out.trans (Keeps.of_below HEW6.out.h4 (Nat.le_of_eq HGX) _),HS2.out.keep SvcC.holds (Keeps.of_below HEW6.out.h4 (Nat.le_of_eq HGX) _) hHw,HEW6.out.i1,HEW6.out.i2,(by have h9:=HRB.out;omega),HWB.out.1,HWB.out.2⟩;have kx3:w6.cell? ⟨gx,3,none⟩=some (.slice (some ⟨g3,0,none⟩) x.copies.length q3):=HKc.out.hx.cell rfl;have ke20:w6.cell? ⟨eb,20,none⟩=some (.string v.at_):=HKc.out.he.cell rfl;have i0:(0:Int)≤(k:Int):=by omega
   have i1:(k:Int)<(x.copies.length:Int):=by omega
   have HK9:=iH (HKc.out.store hg3a hg3b (k*12+11) (.string v.at_));have HO9:=iH (Ug HOn hc v.at_);go_upto_region 39 with fail;clear kx3 ke20 kz fz i0 i1 HKc HOn;generalize w6.setCell ⟨g3,k*12+11,none⟩ (.string v.at_)=w9 at *;rw [List.length_set] at HO9;have HTR:=iH HK9.out.hr.there;have HLX:=iH HK9.out.hx.rangeA;obtain ⟨wz,HWZ⟩:∃ w',Hid (w'=w9.setCells rb 0 (ffL x d1 q1 (some ⟨g2,0,none⟩) q2 (some ⟨g3,0,none⟩) q3)):=⟨_,rfl⟩;have HRZ:Hid (wz.rangeAt rb 0 (ffL x d1 q1 (some ⟨g2,0,none⟩) q2 (some ⟨g3,0,none⟩) q3)):=by
    show World.rangeAt _ _ _ _
    rw [HWZ.out];exact World.rangeAt_setCells_same _ _ _ _ HTR
   have hBZ:Below w.heap.size w wz:=by
    have k1:=HK9.out.i1;have k2:=HK9.out.i2;rw [HWZ.out];exact Ac (by omega) _ _ _ HK9.out.hb
   have hRB:rb<H:=by have h9:=HRB.out;omega
   have HKW:Hid (Keeps H wB wz):=by
    show Keeps _ _ _
    rw [HWZ.out];exact HK9.out.kb.trans (Keeps.setCells hRB _ _ _)
   have HSV:Hid (SliceC SvcC 2 w.heap.size wz (some ⟨g2,0,none⟩) x.services):=by
    show SliceC _ _ _ _ _ _
    rw [HWZ.out];exact Ai SvcC.flat HK9.out.sv (Ao _ _ _) (fun b o e hn e2=>by cases e;have e3:g2=rb:=Option.some.inj e2;rcases HG2.out with h7 | h7;(have h9:=HRB.out;omega);exact hn h7)
   have HOZ:Hid (Kp bs wz (.slice (some ⟨g3,0,none⟩) x.copies.length q3) (x.copies.set k { c with at_:=v.at_ })):=by
    show OwnN _ _ _ _ _ _ _ _ _ _
    rw [HWZ.out];exact HO9.out.kept LikC.flat (Ao _ _ _) (fun r e=>by cases e;omega)
   have HML:=iH (Zv hc v.at_);have hml:(x.copies.set k { c with at_:=v.at_ }).length=x.copies.length:=List.length_set;go_wp2_with (first | (refine lr Bw HLX ?_) | (refine Ad rfl 41 _ _ rfl rb 0 (ffA x d1 q1 (some ⟨g2,0,none⟩) q2 (some ⟨g3,0,none⟩) q3) rfl rfl HTR Ak (by simp [Value.oneCell']) wz HWZ ?_));exact bodyPost_ret (Bn rfl _ _ rb (ffL x d1 q1 (some ⟨g2,0,none⟩) q2 (some ⟨g3,0,none⟩) q3) _ rfl HRZ Tryz.underlying41 rfl Ak) rfl (.inr ⟨{ x with copies:=Du x.copies k v.at_ },d1,q1,some ⟨g2,0,none⟩,q2,some ⟨g3,0,none⟩,q3,HEV,(by show _=Ending.returned (.tuple #[.agg #[_,_,_,.slice _ (Du x.copies k v.at_).length _],_]);rw [HML.out,hml];rfl),(HS1.out.keep BrtC.holds HKW (lT hHw hH1)),HSV,(by show SliceC CpyC 12 _ _ _ (Du x.copies k v.at_);rw [HML.out];exact (OwnN.copies (by rw [hml];exact HOZ.out) HSZ (by rw [hml];unfold maxLen;omega)).keep CpyC.holds (Keeps.refl _ _) (by omega)),hBZ⟩)
  ·have ht:=Fd hat
   have ht0:v.at_.toList.isEmpty=false:=by
    cases he:v.at_.toList with
    | nil=>exact absurd (by rw [ByteArray.toList_eq] at he;exact ByteArray.ext (Array.toList_inj.1 he)) hat
    | cons _ _=>rfl
   go_wp2_with fail;refine (Gx x d1 q1 (some ⟨g2,0,none⟩) q2 d3 q3 H v.at_ _ ((HS1.out.keep BrtC.holds (HKB.out.trans (Keeps.of_below HEW6.out.h4 (Nat.le_of_eq HGX) _)) nL)) (by omega)).mono ?_;rintro e w7 ⟨rfl,hb7⟩;have HEW7:=iH (HEW6.out.below hb7);clear hb7 k20 kx0 kx1 kx2 kx3 HEW6
   cases hj2:Asq (brN x) v.at_ x.berths.length with
   | none =>
    have HEV:Hid (evF x v=none):=by
     show evF x v=none
     simp [evF,HKD.out,hj2,hat]
    rw [aT hj2];clear hj2;go_upto_region 37 with fail;clear ht ht0;have HTR:=iH HEW7.out.hr.there;have HLX:=iH HEW7.out.hx.rangeA;obtain ⟨wz,HWZ⟩:∃ w',Hid (w'=w7.setCells rb 0 (ffL x d1 q1 (some ⟨g2,0,none⟩) q2 d3 q3)):=⟨_,rfl⟩;have HRZ:Hid (wz.rangeAt rb 0 (ffL x d1 q1 (some ⟨g2,0,none⟩) q2 d3 q3)):=by
     show World.rangeAt _ _ _ _
     rw [HWZ.out];exact World.rangeAt_setCells_same _ _ _ _ HTR
    have hBZ:Below w.heap.size w wz:=by
     have k1:=HEW7.out.i1;have k2:=HEW7.out.i2;rw [HWZ.out];exact Ac (by omega) _ _ _ HEW7.out.hb
    go_wp2_with (first | (refine lr Bw HLX ?_) | (refine Ad rfl 41 _ _ rfl rb 0 (ffA x d1 q1 (some ⟨g2,0,none⟩) q2 d3 q3) rfl rfl HTR Ak (by simp [Value.oneCell']) wz HWZ ?_));exact bodyPost_ret (Bn rfl _ _ rb (ffL x d1 q1 (some ⟨g2,0,none⟩) q2 d3 q3) _ rfl HRZ Tryz.underlying41 rfl Ak) rfl (.inl ⟨HEV,_,_,_,_,rfl,by simp [Value.oneCell'],hBZ⟩)
   | some kb =>
    have HEV:Hid (evF x v=some { x with copies:=Du x.copies k v.at_ }):=by
     show evF x v=_
     simp [evF,HKD.out,HJ.out,hj2]
    rw [(Rr HAB hj2).1];have hkb:¬ ((kb:Nat):Int)<0:=by omega
    clear hj2;go_upto_region 38 with fail;clear ht ht0 hkb;obtain ⟨g3,rfl⟩:∃ g3,d3=some ⟨g3,0,none⟩:=by
     obtain ⟨_,h9,_⟩:=HOC.out;rcases SlF.of h9 with ⟨_,h8,_⟩ | ⟨g,h8,_⟩
     ·omega
     ·exact ⟨g,h8⟩
    have HOn:Hid (Kp bs w7 (.slice (some ⟨g3,0,none⟩) x.copies.length q3) x.copies):=HOC.out.below LikC.holds (by rw [HGX.out];exact HEW7.out.h4);obtain ⟨hg3a,hg3b⟩:bs≤g3∧g3<gx:=by
     obtain ⟨_,h9,_⟩:=HOC.out;have h8:=h9.lt g3 rfl;rw [HGX.out] at h8;exact h8
    obtain ⟨kz,fz⟩:w7.cell? ⟨g3,k*12+11,none⟩=some (.string c.at_)∧w7.frozen? ⟨g3,k*12+11,none⟩=false:=by
     obtain ⟨cs9,h9,h8⟩:=HOn.out;obtain ⟨ae,ce,p1,_⟩:=h8 k c hc;have h7:=p1 11 _ rfl;have h6:=h9.cellAt (k*12+11) (by have h5:=Ae h7;have h4:=h9.1;omega);rw [h7] at h6;exact ⟨by simpa using h6,by simpa using h9.frozenAt (k*12+11)⟩
    have HKc:Hid (EvK x v am cm al cl gx eb rb bs H g2 (.slice d1 x.berths.length q1) (.slice (some ⟨g2,0,none⟩) x.services.length q2) (.slice (some ⟨g3,0,none⟩) x.copies.length q3) w wB w7):=⟨HEW7.out.hx,HEW7.out.he,HEW7.out.hr,HEW7.out.hb,HKB.out.trans (Keeps.of_below HEW7.out.h4 (Nat.le_of_eq HGX) _),HS2.out.keep SvcC.holds (Keeps.of_below HEW7.out.h4 (Nat.le_of_eq HGX) _) hHw,HEW7.out.i1,HEW7.out.i2,(by have h9:=HRB.out;omega),HWB.out.1,HWB.out.2⟩;have kx3:w7.cell? ⟨gx,3,none⟩=some (.slice (some ⟨g3,0,none⟩) x.copies.length q3):=HKc.out.hx.cell rfl;have ke20:w7.cell? ⟨eb,20,none⟩=some (.string v.at_):=HKc.out.he.cell rfl;have i0:(0:Int)≤(k:Int):=by omega
    have i1:(k:Int)<(x.copies.length:Int):=by omega
    have HK9:=iH (HKc.out.store hg3a hg3b (k*12+11) (.string v.at_));have HO9:=iH (Ug HOn hc v.at_);go_upto_region 39 with fail;clear kx3 ke20 kz fz i0 i1 HKc HOn;generalize w7.setCell ⟨g3,k*12+11,none⟩ (.string v.at_)=w9 at *;rw [List.length_set] at HO9;have HTR:=iH HK9.out.hr.there;have HLX:=iH HK9.out.hx.rangeA;obtain ⟨wz,HWZ⟩:∃ w',Hid (w'=w9.setCells rb 0 (ffL x d1 q1 (some ⟨g2,0,none⟩) q2 (some ⟨g3,0,none⟩) q3)):=⟨_,rfl⟩;have HRZ:Hid (wz.rangeAt rb 0 (ffL x d1 q1 (some ⟨g2,0,none⟩) q2 (some ⟨g3,0,none⟩) q3)):=by
     show World.rangeAt _ _ _ _
     rw [HWZ.out];exact World.rangeAt_setCells_same _ _ _ _ HTR
    have hBZ:Below w.heap.size w wz:=by
     have k1:=HK9.out.i1;have k2:=HK9.out.i2;rw [HWZ.out];exact Ac (by omega) _ _ _ HK9.out.hb
    have hRB:rb<H:=by have h9:=HRB.out;omega
    have HKW:Hid (Keeps H wB wz):=by
     show Keeps _ _ _
     rw [HWZ.out];exact HK9.out.kb.trans (Keeps.setCells hRB _ _ _)
    have HSV:Hid (SliceC SvcC 2 w.heap.size wz (some ⟨g2,0,none⟩) x.services):=by
     show SliceC _ _ _ _ _ _
     rw [HWZ.out];exact Ai SvcC.flat HK9.out.sv (Ao _ _ _) (fun b o e hn e2=>by cases e;have e3:g2=rb:=Option.some.inj e2;rcases HG2.out with h7 | h7;(have h9:=HRB.out;omega);exact hn h7)
    have HOZ:Hid (Kp bs wz (.slice (some ⟨g3,0,none⟩) x.copies.length q3) (x.copies.set k { c with at_:=v.at_ })):=by
     show OwnN _ _ _ _ _ _ _ _ _ _
     rw [HWZ.out];exact HO9.out.kept LikC.flat (Ao _ _ _) (fun r e=>by cases e;omega)
    have HML:=iH (Zv hc v.at_);have hml:(x.copies.set k { c with at_:=v.at_ }).length=x.copies.length:=List.length_set;go_wp2_with (first | (refine lr Bw HLX ?_) | (refine Ad rfl 41 _ _ rfl rb 0 (ffA x d1 q1 (some ⟨g2,0,none⟩) q2 (some ⟨g3,0,none⟩) q3) rfl rfl HTR Ak (by simp [Value.oneCell']) wz HWZ ?_));exact bodyPost_ret (Bn rfl _ _ rb (ffL x d1 q1 (some ⟨g2,0,none⟩) q2 (some ⟨g3,0,none⟩) q3) _ rfl HRZ Tryz.underlying41 rfl Ak) rfl (.inr ⟨{ x with copies:=Du x.copies k v.at_ },d1,q1,some ⟨g2,0,none⟩,q2,some ⟨g3,0,none⟩,q3,HEV,(by show _=Ending.returned (.tuple #[.agg #[_,_,_,.slice _ (Du x.copies k v.at_).length _],_]);rw [HML.out,hml];rfl),(HS1.out.keep BrtC.holds HKW (lT hHw hH1)),HSV,(by show SliceC CpyC 12 _ _ _ (Du x.copies k v.at_);rw [HML.out];exact (OwnN.copies (by rw [hml];exact HOZ.out) HSZ (by rw [hml];unfold maxLen;omega)).keep CpyC.holds (Keeps.refl _ _) (by omega)),hBZ⟩)
theorem bJ (x:Flt) (v:Evt) (a1:OA) (c1 b2 o2 c2:Nat) (a3:OA) (c3:Nat) (am:OA) (cm:Nat) (al:OA) (cl lo:Nat) (w:World) (n1:SliceC BrtC 6 lo w a1 x.berths) (n2:SliceC SvcC 2 lo w (some ⟨b2,o2,none⟩) x.services) (n3:SliceC CpyC 12 lo w a3 x.copies) (nm:SliceC StrC 1 lo w am v.berth.marks) (nl:SliceC LikC 2 lo w al v.copy.likes) (hvx:Bj x=true) (hlb:x.berths.length≤12) (hls:x.services.length≤30) (hlc:x.copies.length≤60) (hmk:∀ y∈x.berths,y.marks.length≤1048576) (hlk:∀ y∈x.copies,y.likes.length≤1048576) (hvm:v.berth.marks.length≤1048576) (hvl:v.copy.likes.length≤1048576) (z1:SzB [v.berth]) (z3:SzC [v.copy]) (za:v.at_.size≤maxLen) :
  Calls Tryz.prog 21 #[.agg (ffA x a1 c1 (some ⟨b2,o2,none⟩) c2 a3 c3),.agg (eeA v am cm al cl)] w fun e w'=>Om x v w e w':=by
 have hkk:v.kind=1∨v.kind=2∨v.kind=3∨v.kind=4∨v.kind=5∨(¬ v.kind=1∧¬ v.kind=2∧¬ v.kind=3∧¬ v.kind=4∧¬ v.kind=5):=by omega
 rcases hkk with hkd | hkd | hkd | hkd | hkd | ⟨e1,e2,e3,e4,e5⟩
 ·exact fP x v a1 c1 b2 o2 c2 a3 c3 am cm al cl lo w n1 n2 n3 nm nl hvx hlb hls hlc hmk hlk hvm hvl z1 z3 za hkd
 ·exact fC x v a1 c1 b2 o2 c2 a3 c3 am cm al cl lo w n1 n2 n3 nm nl hvx hlb hls hlc hmk hlk hvm hvl z1 z3 za hkd
 ·exact gR x v a1 c1 b2 o2 c2 a3 c3 am cm al cl lo w n1 n2 n3 nm nl hvx hlb hls hlc hmk hlk hvm hvl z1 z3 za hkd
 ·exact eN x v a1 c1 b2 o2 c2 a3 c3 am cm al cl lo w n1 n2 n3 nm nl hvx hlb hls hlc hmk hlk hvm hvl z1 z3 za hkd
 ·exact fD x v a1 c1 b2 o2 c2 a3 c3 am cm al cl lo w n1 n2 n3 nm nl hvx hlb hls hlc hmk hlk hvm hvl z1 z3 za hkd
 ·exact eI x v a1 c1 b2 o2 c2 a3 c3 am cm al cl lo w n1 n2 n3 nm nl hvx hlb hls hlc hmk hlk hvm hvl z1 z3 za e1 e2 e3 e4 e5
end Go.Proofs.YtihnjndnkgnmaaaGreat
