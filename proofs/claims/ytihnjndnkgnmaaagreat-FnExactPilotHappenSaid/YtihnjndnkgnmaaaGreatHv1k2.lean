import Derived.Test.YtihnjndnkgnmaaaGreatJ37
set_option maxHeartbeats 40000000
set_option maxRecDepth 100000
namespace Go.Proofs.YtihnjndnkgnmaaaGreat
open Go.RowKit
theorem fC (x:Flt) (v:Evt) (a1:OA) (c1 b2 o2 c2:Nat) (a3:OA) (c3:Nat) (am:OA) (cm:Nat) (al:OA) (cl lo:Nat) (w:World) (n1:SliceC BrtC 6 lo w a1 x.berths) (n2:SliceC SvcC 2 lo w (some ⟨b2,o2,none⟩) x.services) (n3:SliceC CpyC 12 lo w a3 x.copies) (nm:SliceC StrC 1 lo w am v.berth.marks) (nl:SliceC LikC 2 lo w al v.copy.likes) (hvx:Bj x=true) (hlb:x.berths.length≤12) (hls:x.services.length≤30) (hlc:x.copies.length≤60) (hmk:∀ y∈x.berths,y.marks.length≤1048576) (hlk:∀ y∈x.copies,y.likes.length≤1048576) (hvm:v.berth.marks.length≤1048576) (hvl:v.copy.likes.length≤1048576) (z1:SzB [v.berth]) (z3:SzC [v.copy]) (za:v.at_.size≤maxLen) (hk0:Hid (v.kind=2)) :
  Calls Tryz.prog 21 #[.agg (ffA x a1 c1 (some ⟨b2,o2,none⟩) c2 a3 c3),.agg (eeA v am cm al cl)] w fun e w'=>Om x v w e w':=by
 have HZB:=iH (SzB.of n1);have HZC:=iH (SzC.of n3);have HZ1:=iH z1;have HZ3:=iH z3;have HZA:=iH za;have N1:=iH n1;have N2:=iH n2;have N3:=iH n3;have NM:=iH nm;have NL:=iH nl;have HV:=iH hvx;have HAB:=iH (Bx hvx).2.1;have HAC:=iH (Bm hvx).2.2.2.1;have HMK:=iH hmk;have HLK:=iH hlk;clear n1 n2 n3 nm nl hvx hmk hlk z1 z3 za;have h1:=Blk.alloc w (ffA x a1 c1 (some ⟨b2,o2,none⟩) c2 a3 c3) 41;have h2:Blk (w.heap.size+1) (eeA v am cm al cl) 50 ((w.alloc (Obj.cells (ffA x a1 c1 (some ⟨b2,o2,none⟩) c2 a3 c3) 41)).alloc (Obj.cells (eeA v am cm al cl) 50)):=by
  have:=Blk.alloc (w.alloc (Obj.cells (ffA x a1 c1 (some ⟨b2,o2,none⟩) c2 a3 c3) 41)) (eeA v am cm al cl) 50;simpa using this
 have HR3:Hid (Blk (w.heap.size+1+1) zzA 41 (((w.alloc (Obj.cells (ffA x a1 c1 (some ⟨b2,o2,none⟩) c2 a3 c3) 41)).alloc (Obj.cells (eeA v am cm al cl) 50)).alloc (Obj.cells zzA 41))):=by
  have:=Blk.alloc ((w.alloc (Obj.cells (ffA x a1 c1 (some ⟨b2,o2,none⟩) c2 a3 c3) 41)).alloc (Obj.cells (eeA v am cm al cl) 50)) zzA 41;show Blk _ _ _ _
  simpa using this
 have HF3:Hid (Blk w.heap.size (ffA x a1 c1 (some ⟨b2,o2,none⟩) c2 a3 c3) 41 (((w.alloc (Obj.cells (ffA x a1 c1 (some ⟨b2,o2,none⟩) c2 a3 c3) 41)).alloc (Obj.cells (eeA v am cm al cl) 50)).alloc (Obj.cells zzA 41))):=(h1.below ((Below.refl _ _).alloc nL _) h1.lt).below ((Below.refl _ _).alloc nL _) (by simp;omega);have HE3:=iH (h2.below ((Below.refl _ _).alloc nL (Obj.cells zzA 41)) h2.lt);have hB3:Below w.heap.size w (((w.alloc (Obj.cells (ffA x a1 c1 (some ⟨b2,o2,none⟩) c2 a3 c3) 41)).alloc (Obj.cells (eeA v am cm al cl) 50)).alloc (Obj.cells zzA 41)):=by go_grown
 clear h1 h2;go_enter Tryz.func21,Tryz.ntmps21;go_upto_region 1 with fail;generalize (((w.alloc (Obj.cells (ffA x a1 c1 (some ⟨b2,o2,none⟩) c2 a3 c3) 41)).alloc (Obj.cells (eeA v am cm al cl) 50)).alloc (Obj.cells zzA 41))=w3 at *;go_wp2_with (refine lk Bw HF3 ?_);refine (Ey x a1 c1 b2 o2 c2 a3 c3 lo _ (N1.out.below BrtC.holds hB3 nL) (N2.out.below SvcC.holds hB3 nL) (N3.out.below CpyC.holds hB3 nL) (by omega) (by omega) (by omega) HMK HLK).mono ?_;rintro e w4 ⟨d1,q1,g2,q2,d3,q3,bs,H,wB,rfl,hsf,hs1,hH1,hH2,hwB,hkB,hs2,hg2,hoc,hb4⟩;have HSF:=iH hsf;have HS1:=iH hs1;have HS2:=iH hs2;have HOC:=iH hoc;have hHw:w.heap.size≤w3.heap.size:=hB3.size;have HRL:w.heap.size+1+1<w3.heap.size:=HR3.out.lt;have HKB:=iH hkB;have HWB:=iH (And.intro hwB hg2);have hB4:=qt hB3 hb4;have hW34:w3.heap.size≤w4.heap.size:=hb4.size;have HE4:=HE3.out.below hb4 HE3.out.lt;have HR4:=HR3.out.below hb4 HR3.out.lt;have hr4:=HR4.lt;have hza:=Blk.alloc w4 zzA 41;have HTS:Hid ((w4.alloc (Obj.cells zzA 41)).there w4.heap.size 0 4):=hza.there;obtain ⟨w5,HW5⟩:∃ w5,Hid (w5=(w4.alloc (Obj.cells zzA 41)).setCells w4.heap.size 0 (ffL x d1 q1 (some ⟨g2,0,none⟩) q2 d3 q3)):=⟨_,rfl⟩;have hbx:Below w4.heap.size w4 w5:=by
  rw [HW5.out];exact Ac nL _ _ _ ((Below.refl _ w4).alloc nL _)
 have hk5:Blk w4.heap.size (ffA x d1 q1 (some ⟨g2,0,none⟩) q2 d3 q3) 41 w5:=by
  rw [HW5.out];exact hza.setAll (ffA x d1 q1 (some ⟨g2,0,none⟩) q2 d3 q3) rfl
 obtain ⟨gx,hgx⟩:∃ gx,gx=w4.heap.size:=⟨_,rfl⟩;obtain ⟨eb,heb⟩:∃ eb,eb=w.heap.size+1:=⟨_,rfl⟩;obtain ⟨rb,hrb⟩:∃ rb,rb=w.heap.size+1+1:=⟨_,rfl⟩;have HEW:Hid (EvW x v am cm al cl gx eb rb (.slice d1 x.berths.length q1) (.slice (some ⟨g2,0,none⟩) x.services.length q2) (.slice d3 x.copies.length q3) w w4 w5):=⟨by rw [hgx];exact hk5,by rw [heb];exact HE4.below hbx HE4.lt,by rw [hrb];exact HR4.below hbx HR4.lt,qt hB4 hbx,by rw [hgx];exact hbx,by omega,by omega,by omega,by omega⟩;have HGX:Hid (w4.heap.size=gx):=hgx.symm;go_upto_region 2 with (refine Ad rfl 41 _ _ rfl w4.heap.size 0 (ffA x d1 q1 (some ⟨g2,0,none⟩) q2 d3 q3) rfl rfl HTS Ak (by simp [Value.oneCell']) w5 HW5 ?_);clear HTS HW5 hza hbx hk5 HE4 HR4 hB4 HF3 HE3 HR3 hsf hs1 hs2 hoc hb4 hr4 hkB hwB hg2;rw [← HGX.out] at hgx;clear hgx;rw [HGX.out,← hrb,← heb];have HRB0:rb<w3.heap.size:=by rw [hrb];exact HRL
 clear heb hrb HRL;have HRB:Hid (rb<w3.heap.size):=HRB0;have _hv:=And.intro hvm hvl;clear _hv;have hkd:v.kind=2:=hk0.out;have k0:w5.cell? ⟨eb,0,none⟩=some (.int .i64 2):=by rw [← hkd];exact HEW.out.he.cell rfl
 have k19:w5.cell? ⟨eb,19,none⟩=some (.string v.name):=HEW.out.he.cell rfl;have HLX:=iH HEW.out.hx.rangeA;go_upto_region 12 with fail;go_wp2_with (refine lr Bw HLX ?_);refine (Gx x d1 q1 (some ⟨g2,0,none⟩) q2 d3 q3 H v.name _ (HS1.out.keep BrtC.holds (HKB.out.trans (Keeps.of_below HEW.out.h4 (Nat.le_of_eq HGX) _)) nL) (by omega)).mono ?_;rintro e w6 ⟨rfl,hb6⟩;have HEW6:=iH (HEW.out.below hb6);clear hb6 k0 k19 HEW HLX;have HG2:Hid (w3.heap.size≤g2∨x.services=[]):=by
  rcases HS2.out.2 with h9 | ⟨b9,o9,e9,⟨h8,_⟩,_⟩
  ·exact .inr h9
  ·cases e9
   exact .inl h8
 cases hj:Asq (brN x) v.name x.berths.length with
 | none =>
  have HEV:Hid (evF x v=none):=by
   show evF x v=none
   simp [evF,hkd,hj]
  rw [aT hj];clear hj;go_upto_region 14 with fail;have HTR:=iH HEW6.out.hr.there;have HLX:=iH HEW6.out.hx.rangeA;obtain ⟨wz,HWZ⟩:∃ w',Hid (w'=w6.setCells rb 0 (ffL x d1 q1 (some ⟨g2,0,none⟩) q2 d3 q3)):=⟨_,rfl⟩;have HRZ:Hid (wz.rangeAt rb 0 (ffL x d1 q1 (some ⟨g2,0,none⟩) q2 d3 q3)):=by
   show World.rangeAt _ _ _ _
   rw [HWZ.out];exact World.rangeAt_setCells_same _ _ _ _ HTR
  have hBZ:Below w.heap.size w wz:=by
   have k1:=HEW6.out.i1;have k2:=HEW6.out.i2;rw [HWZ.out];exact Ac (by omega) _ _ _ HEW6.out.hb
  go_wp2_with (first | (refine lr Bw HLX ?_) | (refine Ad rfl 41 _ _ rfl rb 0 (ffA x d1 q1 (some ⟨g2,0,none⟩) q2 d3 q3) rfl rfl HTR Ak (by simp [Value.oneCell']) wz HWZ ?_));exact bodyPost_ret (Bn rfl _ _ rb (ffL x d1 q1 (some ⟨g2,0,none⟩) q2 d3 q3) _ rfl HRZ Tryz.underlying41 rfl Ak) rfl (.inl ⟨HEV,_,_,_,_,rfl,by simp [Value.oneCell'],hBZ⟩)
 | some k =>
  obtain ⟨hic,c,hc,hcn⟩:=Rr HAB hj;rw [hic];have hk0:¬ ((k:Nat):Int)<0:=by omega
  have hkl:=Ae hc;have HEV:Hid (evF x v=some { x with berths:=Ce x.berths k,copies:=x.copies.map (Cf v.name) }):=by
   show evF x v=_
   simp [evF,hkd,hj]
  clear hj hic hcn hkd;go_upto_region 15 with fail;obtain ⟨gl,rfl,hcq,hcm⟩:∃ gl,d1=some ⟨gl,0,none⟩∧x.berths.length≤q1∧q1≤maxLen:=by
   rcases HSF.out with ⟨_,h8,_⟩ | h8
   ·omega
   ·exact h8
  unfold maxLen at hcm;obtain ⟨hgH,hgW⟩:H≤gl∧gl<wB.heap.size:=by
   obtain ⟨b9,o9,e9,h8,h7,_⟩:=HS1.out.at hc;cases e9
   exact ⟨h8,h7⟩
  clear hc;obtain ⟨cs,hc1,hc2,hc3,hc4⟩:=Jh HS1;have HC1:=iH hc1;have HC2:=iH hc2;have HC3:=iH hc3;have HC4:Hid (EAt vBr Brt.marks StrC 1 6 H wB cs x.berths):=hc4;clear hc1 hc2 hc3 hc4;have HCT:Hid (∀ wy,EvW x v am cm al cl gx eb rb (.slice (some ⟨gl,0,none⟩) x.berths.length q1) (.slice (some ⟨g2,0,none⟩) x.services.length q2) (.slice d3 x.copies.length q3) w w4 wy→∀ o u,wB.cell? ⟨gl,o,none⟩=some u→wy.cell? ⟨gl,o,none⟩=some u):=fun wy hy o u h=>((HKB.out.trans (Keeps.of_below hy.h4 (Nat.le_of_eq HGX) _)).2 gl o hgH hgW).1.trans h
  have HCW:Hid (∀ wy,EvW x v am cm al cl gx eb rb (.slice (some ⟨gl,0,none⟩) x.berths.length q1) (.slice (some ⟨g2,0,none⟩) x.services.length q2) (.slice d3 x.copies.length q3) w w4 wy→∀ j u,cs[j]?=some u→wy.cell? ((⟨gl,0,none⟩:Addr).add j)=some u):=fun wy hy j u h=>by
   have h9:=HC2.out j u h;rw [Addr.add_mid] at h9 ⊢;exact HCT.out wy hy _ u h9
  have HCW2:Hid (∀ wy,EvW x v am cm al cl gx eb rb (.slice (some ⟨gl,0,none⟩) x.berths.length q1) (.slice (some ⟨g2,0,none⟩) x.services.length q2) (.slice d3 x.copies.length q3) w w4 wy→∀ (r j:Nat) u,wB.cell? ((⟨gl,r,none⟩:Addr).add j)=some u→wy.cell? ((⟨gl,r,none⟩:Addr).add j)=some u):=fun wy hy r j u h=>by
   rw [Addr.add_mid] at h ⊢;exact HCT.out wy hy _ u h
  obtain ⟨i0,hi,hz0,hz1,hz2⟩:=info_parts Ge;have HII:=iH hi;clear hi;refine Av (S:=fun wy=>Blk gx (ffA x (some ⟨gl,0,none⟩) q1 (some ⟨g2,0,none⟩) q2 d3 q3) 41 wy) 13 (by kernel_rfl) HEW6.out.hx.drew (fun hS=>?_);have HN:=iH HEW6.out.drew;clear HEW6;generalize w6.drew=wn at *;refine tv 1 ⟨some 83,_,_,_,_,none⟩ (.pointer (some ⟨gx,1,none⟩)) rfl (by rfl) ?_ hS ?_
  ·intro wy hy
   clear hy;go_simp
  simp only [pX];refine tv 2 ⟨some 84,_,_,_,_,none⟩ (.slice (some ⟨gl,0,none⟩) x.berths.length q1) rfl (by rfl) ?_ hS ?_
  ·intro wy hy
   have h0:wy.cell? ⟨gx,1,none⟩=some (.slice (some ⟨gl,0,none⟩) x.berths.length q1):=Blk.cell hy rfl;clear hy;go_simp
  simp only [pX];refine tv 3 ⟨some 85,_,_,_,_,none⟩ (.int .i64 k) rfl (by rfl) ?_ hS ?_
  ·intro wy hy
   clear hy;go_simp
  simp only [pX];refine tv 4 ⟨some 86,_,_,_,_,none⟩ (.slice (some ⟨gl,0,none⟩) k q1) rfl (by rfl) ?_ hS ?_
  ·intro wy hy
   clear hy
   (go_simp;try omega)
  simp only [pX];refine tv 6 ⟨some 88,_,_,_,_,none⟩ (.pointer (some ⟨gx,1,none⟩)) rfl (by rfl) ?_ hS ?_
  ·intro wy hy
   clear hy;go_simp
  simp only [pX];refine tv 7 ⟨some 89,_,_,_,_,none⟩ (.slice (some ⟨gl,0,none⟩) x.berths.length q1) rfl (by rfl) ?_ hS ?_
  ·intro wy hy
   have h0:wy.cell? ⟨gx,1,none⟩=some (.slice (some ⟨gl,0,none⟩) x.berths.length q1):=Blk.cell hy rfl;clear hy;go_simp
  simp only [pX];refine tv 8 ⟨some 90,_,_,_,_,none⟩ (.int .i64 k) rfl (by rfl) ?_ hS ?_
  ·intro wy hy
   clear hy;go_simp
  simp only [pX];refine tv 9 ⟨some 91,_,_,_,_,none⟩ (.int .i64 ((k+1:Nat):Int)) rfl (by rfl) ?_ hS ?_
  ·intro wy hy
   clear hy
   first | (go_simp;done) | (go_simp;rw [IntKind.wrap_i64];omega) | (go_simp;omega)
  simp only [pX];obtain ⟨ro,hrb,hrc⟩:=Gy (w:=wB) (b:=gl) (o:=0) (k:=k+1) (cap:=q1) (len:=x.berths.length) (n:=6) (cs:=cs) HC1 hcq (by omega) HC2;have HRC:=iH hrc;clear hrc;refine tv 10 ⟨some 92,_,_,_,_,none⟩ (.slice (some ⟨gl,ro,none⟩) (x.berths.length - (k+1)) (q1 - (k+1))) rfl (by rfl) ?_ hS ?_
  ·intro wy hy
   clear hy
   (rw [← hrb];go_simp;try omega)
  simp only [pX];clear hrb;refine ru1 0 ⟨some 82,_,_,_,_,none⟩ rfl (fun KK hKK=>?_);go_simp;have hal:=(Below.refl _ wn).alloc nL (Obj.cells #[] 45);have HRw:Hid ((wn.alloc (Obj.cells #[] 45)).ownsRow wn.heap.size 45 6 (.slice (some ⟨wn.heap.size,0,none⟩) 0 0) 0 []):=World.ownsRow_made wn #[] 0 nL (zL) rfl;have hgn:gx<wn.heap.size:=HN.out.hx.lt;replace HN:=iH (HN.out.below hal);refine hKK.out _ _ HN.out.hx (fun hS=>?_);clear hKK KK hal;generalize wn.heap.size=h0 at *;generalize wn.alloc (Obj.cells #[] 45)=wo at *;have HH0:Hid (h0≤wo.heap.size):=by have h9:=(HRw.out.lt h0 rfl).2;exact lE h9
  refine ru1 5 ⟨some 87,_,_,_,_,none⟩ rfl (fun KK hKK=>?_);rw [if_pos (by rfl)];refine Cp (.tmp 82) (.tmp 86) 37 (by rfl) h0 45 i0 _ 6 80 Tryz.underlying37 HII hz0 hz1 hz2 rfl (by decide) _ 0 _ (by rfl) HRw ⟨gl,0,none⟩ k q1 (cs.take (k*6)) (by rfl) (by rw [List.length_take,HC1.out];have h9:=Nat.mul_le_mul_right 6 (lE hkl);omega) (fun j u hj=>HCW.out wo HN j u (by have h9:=Ae hj;simp only [List.length_take] at h9;rwa [List.getElem?_take_of_lt (by omega)] at hj)) (fun u hu=>HC3.out u (List.mem_of_mem_take hu)) (by unfold maxLen;omega) (by omega) (by have h9:=HRw.out.lt;have h8:=HH0.out;exact h8) ?_;intro v' wp hown hgrow hnil hblk;have hv:v'≠.slice none 0 0:=(fun e=>by have h9:=(hnil.1 e).1;cases h9);rw [Nat.zero_add,List.nil_append] at hown;obtain ⟨e1,p1,rfl⟩:=Dj hown hv;have hrow:∀ r,Value.ownBlock _=some r→gx<r:=fun r e=>lL hgn (HRw.out.lt r e).1
  replace HN:=iH (HN.out.grown hgrow hrow);replace HRw:=iH hown;have HH1:=iH (lT HH0 hgrow.size);refine hKK.out _ _ HN.out.hx (fun hS=>?_);clear hKK KK hown hgrow hnil hblk hv hrow HH0;have HH0:=HH1;clear HH1;simp only [pX];refine ru1 11 ⟨some 93,_,_,_,_,none⟩ rfl (fun KK hKK=>?_);rw [if_pos (by rfl)];refine Cp (.tmp 87) (.tmp 92) 37 (by rfl) h0 45 i0 _ 6 80 Tryz.underlying37 HII hz0 hz1 hz2 rfl (by decide) _ k _ (by rfl) HRw ⟨gl,ro,none⟩ (x.berths.length - (k+1)) (q1 - (k+1)) (cs.drop ((k+1)*6)) (by rfl) (by rw [List.length_drop,HC1.out,Nat.sub_mul]) (fun j u hj=>HCW2.out wp HN ro j u (HRC j u hj)) (fun u hu=>HC3.out u (List.mem_of_mem_drop hu)) (by unfold maxLen;omega) (by omega) (by have h9:=HRw.out.lt;have h8:=HH0.out;exact h8) ?_;intro v' wq hown hgrow hnil hblk;have hv:v'≠.slice none 0 0:=(fun e=>by have h9:=(hnil.1 e).1;cases h9);skip;obtain ⟨e2,p2,rfl⟩:=Dj hown hv;have hrow:∀ r,Value.ownBlock _=some r→gx<r:=fun r e=>lL hgn (HRw.out.lt r e).1
  replace HN:=iH (HN.out.grown hgrow hrow);replace HRw:=iH hown;have HH1:=iH (lT HH0 hgrow.size);refine hKK.out _ _ HN.out.hx (fun hS=>?_);clear hKK KK hown hgrow hnil hblk hv hrow HH0;have HH0:=HH1;clear HH1;simp only [pX];refine tv 12 ⟨some 94,_,_,_,_,none⟩ (.pointer (some ⟨gx,1,none⟩)) rfl (by rfl) ?_ hS ?_
  ·intro wy hy
   clear hy;go_simp
  simp only [pX];have kz:=HN.out.hx.cell (o:=1) rfl;have fz:=HN.out.hx.frozen 1;refine Bb (rs:=[13]) (by kernel_rfl) (by simp) (AllReadyU.last (o:=⟨none,_,_,_,_,none⟩) rfl (fun KK hKK=>?_));go_simp;clear kz fz;have HN9:=iH (HN.out.set1 (.slice (some ⟨e2,0,none⟩) (k+(x.berths.length - (k+1))) p2));have HR9:=iH (Cb (i:=1) HRw hgn (.slice (some ⟨e2,0,none⟩) (k+(x.berths.length - (k+1))) p2));refine hKK.out _ _ (Bl (by kernel_rfl) ?_ _);clear hKK KK hS HN HRw;generalize wq.setCell ⟨gx,1,none⟩ (.slice (some ⟨e2,0,none⟩) (k+(x.berths.length - (k+1))) p2)=w9 at *;have hcl:k+(x.berths.length - (k+1))=(Ce x.berths k).length:=by unfold Ce;rw [List.length_append,List.length_take,List.length_drop];omega
  rw [hcl] at HN9 HR9 ⊢;have HKc:Hid (EvK x v am cm al cl gx eb rb bs H g2 (.slice (some ⟨e2,0,none⟩) (Ce x.berths k).length p2) (.slice (some ⟨g2,0,none⟩) x.services.length q2) (.slice d3 x.copies.length q3) w wB w9):=⟨HN9.out.hx,HN9.out.he,HN9.out.hr,HN9.out.hb,HKB.out.trans (Keeps.of_below HN9.out.h4 (Nat.le_of_eq HGX) _),HS2.out.keep SvcC.holds (Keeps.of_below HN9.out.h4 (Nat.le_of_eq HGX) _) hHw,HN9.out.i1,HN9.out.i2,(by have h9:=HRB.out;omega),HWB.out.1,HWB.out.2⟩;have HOc:Hid (Kp bs w9 (.slice d3 x.copies.length q3) x.copies):=HOC.out.below LikC.holds (by rw [HGX.out];exact HN9.out.h4);have HM0:Hid (MapTo (Cf v.name) x.copies 0 x.copies):=⟨rfl,fun j=>by rw [if_neg (Nat.not_lt_zero _)]⟩;have HGD:Hid (0<x.copies.length→∃ g3,d3=some ⟨g3,0,none⟩∧bs≤g3∧g3<gx):=by
   intro hp;obtain ⟨_,h9,_⟩:=HOC.out;rcases SlF.of h9 with ⟨_,h8,_⟩ | ⟨g,h8,_⟩
   ·omega
   ·subst h8
    have h7:=h9.lt g rfl;rw [HGX.out] at h7;exact ⟨g,rfl,h7⟩
  have hrx:rb<gx:=HN9.out.i3;have hHx:H≤gx:=by
   have h9:=HKB.out.1;have h8:=HGX.out;omega
  clear HN9 hcl HCT HCW HCW2 HRC;go_wp2_with fail;go_loopw [10] (fun i wr=>∃ (j:Nat) (l:List Cpy),j≤x.copies.length∧i=.int .i64 j∧Hid (MapTo (Cf v.name) x.copies j l)∧Hid (Kp bs wr (.slice d3 x.copies.length q3) l)∧Hid (EvK x v am cm al cl gx eb rb bs H g2 (.slice (some ⟨e2,0,none⟩) (Ce x.berths k).length p2) (.slice (some ⟨g2,0,none⟩) x.services.length q2) (.slice d3 x.copies.length q3) w wB wr)∧Hid (wr.ownsRow h0 45 6 (.slice (some ⟨e2,0,none⟩) (Ce x.berths k).length p2) (Ce x.berths k).length (cs.take (k*6)++cs.drop ((k+1)*6)))) (fun i _=>x.copies.length - (intOf i).toNat)
  case atStart=>exact ⟨0,x.copies,zL,rfl,HM0,HOc,HKc,HR9⟩
  case round =>
   clear HM0 HOc HKc HR9;obtain ⟨j,l,hjl,rfl,HM,HO,HKr,HRr⟩:=hrel;have kx3:wr.cell? ⟨gx,3,none⟩=some (.slice d3 x.copies.length q3):=HKr.out.hx.cell rfl;by_cases hlt:j<x.copies.length
   ·obtain ⟨g3,hd3,hga,hgb⟩:=HGD.out (by omega)
    subst hd3;obtain ⟨c,hc⟩:=gX hlt;have hlc9:l[j]?=some c:=by rw [HM.out.2 j,if_neg (Nat.lt_irrefl _)];exact hc
    have hll:l.length=x.copies.length:=HM.out.1;have HM2:=iH (HM.out.step hc);have kn:wr.cell? ⟨eb,19,none⟩=some (.string v.name):=HKr.out.he.cell rfl;have HO':Hid (Kp bs wr (.slice (some ⟨g3,0,none⟩) l.length q3) l):=by show OwnN _ _ _ _ _ _ _ _ _ _;rw [hll];exact HO.out
    obtain ⟨ka,fa⟩:wr.cell? ⟨g3,j*12+11,none⟩=some (.string c.at_)∧wr.frozen? ⟨g3,j*12+11,none⟩=false:=by
     obtain ⟨cs9,h9,h8⟩:=HO'.out;obtain ⟨ae,ce,p1,_⟩:=h8 j c hlc9;have h7:=p1 11 _ rfl;have h6:=h9.cellAt (j*12+11) (by have h5:=Ae h7;have h4:=h9.1;omega);rw [h7] at h6;exact ⟨by simpa using h6,by simpa using h9.frozenAt (j*12+11)⟩
    have i0:(0:Int)≤(j:Int):=by omega
    have i1:(j:Int)<(x.copies.length:Int):=by omega
    go_upto_region 19 with fail;by_cases he:c.at_=v.name
    ·have HAW:Hid (Cf v.name c={ c with at_:=Gn }):=if_pos he
     rw [he] at ka;clear he
     go_region
     have kz:wr.drew.cell? ⟨g3,j*12+11,none⟩=some (.string v.name):=ka;have fz:wr.drew.frozen? ⟨g3,j*12+11,none⟩=false:=fa;have kx3d:wr.drew.cell? ⟨gx,3,none⟩=some (.slice (some ⟨g3,0,none⟩) x.copies.length q3):=kx3;have HK2:=iH ((HKr.out.below (Below.refl _ wr).drew).store hga hgb (j*12+11) (.string ⟨#[]⟩));have HO2:=iH (Ug (HO'.out.below LikC.holds (Below.refl _ wr).drew) hlc9 Gn);have HR2:=iH (Cb (i:=j*12+11) (p:=g3) HRr.out.drew (by omega) (.string ⟨#[]⟩));rw [List.length_set,hll] at HO2;rw [HAW.out] at HM2;clear kn ka fa kx3 HO HO' HKr HRr HM;generalize wr.drew=wd at *;go_wp2_with fail;go_roundw
     case rel=>exact ⟨j+1,_,by omega,by go_num,HM2,HO2,HK2,HR2⟩
     case measure=>simp [intOf];omega
    ·have HAW:Hid (Cf v.name c=c):=if_neg he
     have ht:=Fd he;have hls:l.set j c=l:=by
      refine List.ext_getElem? (fun t=>?_);by_cases e:t=j
      ·subst e
       rw [List.getElem?_set_self (by rw [hll];exact hlt),hlc9]
      ·rw [List.getElem?_set_ne (fun h=>e h.symm)]
     rw [HAW.out,hls] at HM2;clear he hls
     go_region
     have HK2:=iH (HKr.out.below (Below.refl _ wr).drew);have HO2:=iH (HO.out.below LikC.holds (Below.refl _ wr).drew);have HR2:=iH HRr.out.drew;clear kn ka fa kx3 HO HO' HKr HRr HM;generalize wr.drew=wd at *;go_wp2_with fail;go_roundw
     case rel=>exact ⟨j+1,l,by omega,by go_num,HM2,HO2,HK2,HR2⟩
     case measure=>simp [intOf];omega
   ·have hje:j=x.copies.length:=by omega
    subst hje;have hl:=HM.out.done;subst hl;have i1:¬ (x.copies.length:Int)<(x.copies.length:Int):=by omega
    go_upto_region 39 with fail;clear kx3 i1 HM;have HTR:=iH HKr.out.hr.there;have HLX:=iH HKr.out.hx.rangeA;obtain ⟨wz,HWZ⟩:∃ w',Hid (w'=wr.setCells rb 0 (fgL x.pack (some ⟨e2,0,none⟩) (Ce x.berths k).length p2 (some ⟨g2,0,none⟩) x.services.length q2 d3 x.copies.length q3)):=⟨_,rfl⟩;have HRZ:Hid (wz.rangeAt rb 0 (fgL x.pack (some ⟨e2,0,none⟩) (Ce x.berths k).length p2 (some ⟨g2,0,none⟩) x.services.length q2 d3 x.copies.length q3)):=by
     show World.rangeAt _ _ _ _
     rw [HWZ.out];exact World.rangeAt_setCells_same _ _ _ _ HTR
    have hBZ:Below w.heap.size w wz:=by
     have k1:=HKr.out.i1;have k2:=HKr.out.i2;rw [HWZ.out];exact Ac (by omega) _ _ _ HKr.out.hb
    have hRB:rb<H:=by have h9:=HRB.out;omega
    have HKW:Hid (Keeps H wB wz):=by
     show Keeps _ _ _
     rw [HWZ.out];exact HKr.out.kb.trans (Keeps.setCells hRB _ _ _)
    have HSV:Hid (SliceC SvcC 2 w.heap.size wz (some ⟨g2,0,none⟩) x.services):=by
     show SliceC _ _ _ _ _ _
     rw [HWZ.out];exact Ai SvcC.flat HKr.out.sv (Ao _ _ _) (fun b o e hn e2=>by cases e;have e3:g2=rb:=Option.some.inj e2;rcases HG2.out with h7 | h7;(have h9:=HRB.out;omega);exact hn h7)
    have HOZ:Hid (Kp bs wz (.slice d3 x.copies.length q3) (x.copies.map (Cf v.name))):=by
     show OwnN _ _ _ _ _ _ _ _ _ _
     rw [HWZ.out];exact HO.out.kept LikC.flat (Ao _ _ _) (fun r e=>by cases e;omega)
    have HRz:Hid (wz.ownsRow h0 45 6 (.slice (some ⟨e2,0,none⟩) (Ce x.berths k).length p2) (Ce x.berths k).length (cs.take (k*6)++cs.drop ((k+1)*6))):=by
     show World.ownsRow _ _ _ _ _ _ _
     rw [HWZ.out];exact Doq HRr (by omega) _
    have HEz:Hid (EAt vBr Brt.marks StrC 1 6 H wz (cs.take (k*6)++cs.drop ((k+1)*6)) (Ce x.berths k)):=by
     show EAt _ _ _ _ _ _ _ _ _
     have e1:=HC4.out.take Bk k;have e3:=HC4.out.drop (k+1);have e4:=e1.app Bk (by rw [List.length_take,List.length_take,HC1.out,Nat.min_eq_left (lE hkl),Nat.min_eq_left (Nat.mul_le_mul_right 6 (lE hkl))]) e3;exact e4.keep StrC.holds HKW
    obtain ⟨d9,q9,e9,hsl⟩:=Kk HRz (by omega) HEz (fun y hy=>HZB.out y (Ob hy)) (by have h9:=Gz x.berths k;unfold maxLen;omega);have e8:some ⟨e2,0,none⟩=d9:=by injection e9
    subst e8;have HSL:=iH hsl;clear hsl e9;go_wp2_with (first | (refine lr Bw HLX ?_) | (refine Ad rfl 41 _ _ rfl rb 0 (fgA x.pack (some ⟨e2,0,none⟩) (Ce x.berths k).length p2 (some ⟨g2,0,none⟩) x.services.length q2 d3 x.copies.length q3) rfl rfl HTR Ak (by simp [Value.oneCell']) wz HWZ ?_));exact bodyPost_ret (Bn rfl _ _ rb (fgL x.pack (some ⟨e2,0,none⟩) (Ce x.berths k).length p2 (some ⟨g2,0,none⟩) x.services.length q2 d3 x.copies.length q3) _ rfl HRZ Tryz.underlying41 rfl Ak) rfl (.inr ⟨{ x with berths:=Ce x.berths k,copies:=x.copies.map (Cf v.name) },some ⟨e2,0,none⟩,p2,some ⟨g2,0,none⟩,q2,d3,q3,HEV,(by show _=Ending.returned (.tuple #[.agg #[_,_,_,.slice _ (x.copies.map (Cf v.name)).length _],_]);rw [List.length_map];rfl),HSL.out.keep BrtC.holds (Keeps.refl _ _) (by omega),HSV,(OwnN.copies (l:=x.copies.map (Cf v.name)) (by rw [List.length_map];exact HOZ.out) (aM HZC) (by rw [List.length_map];unfold maxLen;omega)).keep CpyC.holds (Keeps.refl _ _) (by omega),hBZ⟩)
end Go.Proofs.YtihnjndnkgnmaaaGreat
