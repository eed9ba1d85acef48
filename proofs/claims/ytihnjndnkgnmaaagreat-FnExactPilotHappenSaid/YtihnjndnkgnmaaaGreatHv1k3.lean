import Derived.Test.YtihnjndnkgnmaaaGreatJ37
set_option maxHeartbeats 40000000
set_option maxRecDepth 100000
namespace Go.Proofs.YtihnjndnkgnmaaaGreat
open Go.RowKit
theorem gR (x:Flt) (v:Evt) (a1:OA) (c1 b2 o2 c2:Nat) (a3:OA) (c3:Nat) (am:OA) (cm:Nat) (al:OA) (cl lo:Nat) (w:World) (n1:SliceC BrtC 6 lo w a1 x.berths) (n2:SliceC SvcC 2 lo w (some ⟨b2,o2,none⟩) x.services) (n3:SliceC CpyC 12 lo w a3 x.copies) (nm:SliceC StrC 1 lo w am v.berth.marks) (nl:SliceC LikC 2 lo w al v.copy.likes) (hvx:Bj x=true) (hlb:x.berths.length≤12) (hls:x.services.length≤30) (hlc:x.copies.length≤60) (hmk:∀ y∈x.berths,y.marks.length≤1048576) (hlk:∀ y∈x.copies,y.likes.length≤1048576) (hvm:v.berth.marks.length≤1048576) (hvl:v.copy.likes.length≤1048576) (z1:SzB [v.berth]) (z3:SzC [v.copy]) (za:v.at_.size≤maxLen) (hk0:Hid (v.kind=3)) :
  Calls Tryz.prog 21 #[.agg (ffA x a1 c1 (some ⟨b2,o2,none⟩) c2 a3 c3),.agg (eeA v am cm al cl)] w fun e w'=>Om x v w e w':=by
 have HZB:=iH (SzB.of n1);have HZC:=iH (SzC.of n3);have HZ1:=iH z1;have HZ3:=iH z3;have HZA:=iH za;have N1:=iH n1;have N2:=iH n2;have N3:=iH n3;have NM:=iH nm;have NL:=iH nl;have HV:=iH hvx;have HAB:=iH (Bx hvx).2.1;have HAC:=iH (Bm hvx).2.2.2.1;have HMK:=iH hmk;have HLK:=iH hlk;clear n1 n2 n3 nm nl hvx hmk hlk z1 z3 za;have h1:=Blk.alloc w (ffA x a1 c1 (some ⟨b2,o2,none⟩) c2 a3 c3) 41;have h2:Blk (w.heap.size+1) (eeA v am cm al cl) 50 ((w.alloc (Obj.cells (ffA x a1 c1 (some ⟨b2,o2,none⟩) c2 a3 c3) 41)).alloc (Obj.cells (eeA v am cm al cl) 50)):=by
  have:=Blk.alloc (w.alloc (Obj.cells (ffA x a1 c1 (some ⟨b2,o2,none⟩) c2 a3 c3) 41)) (eeA v am cm al cl) 50;simpa using this
 have HR3:Hid (Blk (w.heap.size+1+1) zzA 41 (((w.alloc (Obj.cells (ffA x a1 c1 (some ⟨b2,o2,none⟩) c2 a3 c3) 41)).alloc (Obj.cells (eeA v am cm al cl) 50)).alloc (Obj.cells zzA 41))):=by
  have:=Blk.alloc ((w.alloc (Obj.cells (ffA x a1 c1 (some ⟨b2,o2,none⟩) c2 a3 c3) 41)).alloc (Obj.cells (eeA v am cm al cl) 50)) zzA 41;show Blk _ _ _ _
  simpa using this
 have HF3:Hid (Blk w.heap.size (ffA x a1 c1 (some ⟨b2,o2,none⟩) c2 a3 c3) 41 (((w.alloc (Obj.cells (ffA x a1 c1 (some ⟨b2,o2,none⟩) c2 a3 c3) 41)).alloc (Obj.cells (eeA v am cm al cl) 50)).alloc (Obj.cells zzA 41))):=(h1.below ((Below.refl _ _).alloc nL _) h1.lt).below ((Below.refl _ _).alloc nL _) (by simp;omega);have HE3:=iH (h2.below ((Below.refl _ _).alloc nL (Obj.cells zzA 41)) h2.lt);have hB3:Below w.heap.size w (((w.alloc (Obj.cells (ffA x a1 c1 (some ⟨b2,o2,none⟩) c2 a3 c3) 41)).alloc (Obj.cells (eeA v am cm al cl) 50)).alloc (Obj.cells zzA 41)):=by go_grown
 clear h1 h2;go_enter Tryz.func21,Tryz.ntmps21;go_upto_region 1 with fail;generalize (((w.alloc (Obj.cells (ffA x a1 c1 (some ⟨b2,o2,none⟩) c2 a3 c3) 41)).alloc (Obj.cells (eeA v am cm al cl) 50)).alloc (Obj.cells zzA 41))=w3 at *;go_wp2_with (refine lk Bw HF3 ?_);refine (Ey x a1 c1 b2 o2 c2 a3 c3 lo _ (N1.out.below BrtC.holds hB3 nL) (N2.out.below SvcC.holds hB3 nL) (N3.out.below CpyC.holds hB3 nL) (by omega) (by omega) (by omega) HMK HLK).mono ?_;rintro e w4 ⟨d1,q1,g2,q2,d3,q3,bs,H,wB,rfl,hsf,hs1,hH1,hH2,hwB,hkB,hs2,hg2,hoc,hb4⟩;have HSF:=iH hsf;have HS1:=iH hs1;have HS2:=iH hs2;have HOC:=iH hoc;have hHw:w.heap.size≤w3.heap.size:=hB3.size;have HRL:w.heap.size+1+1<w3.heap.size:=HR3.out.lt;have HKB:=iH hkB;have HWB:=iH (And.intro hwB hg2);have hB4:=qt hB3 hb4;have hW34:w3.heap.size≤w4.heap.size:=hb4.size;have HE4:=HE3.out.below hb4 HE3.out.lt;have HR4:=HR3.out.below hb4 HR3.out.lt;have hr4:=HR4.lt;have hza:=Blk.alloc w4 zzA 41;have HTS:Hid ((w4.alloc (Obj.cells zzA 41)).there w4.heap.size 0 4):=hza.there;obtain ⟨w5,HW5⟩:∃ w5,Hid (w5=(w4.alloc (Obj.cells zzA 41)).setCells w4.heap.size 0 (ffL x d1 q1 (some ⟨g2,0,none⟩) q2 d3 q3)):=⟨_,rfl⟩;have hbx:Below w4.heap.size w4 w5:=by
  rw [HW5.out];exact Ac nL _ _ _ ((Below.refl _ w4).alloc nL _)
 have hk5:Blk w4.heap.size (ffA x d1 q1 (some ⟨g2,0,none⟩) q2 d3 q3) 41 w5:=by
  rw [HW5.out];exact hza.setAll (ffA x d1 q1 (some ⟨g2,0,none⟩) q2 d3 q3) rfl
 obtain ⟨gx,hgx⟩:∃ gx,gx=w4.heap.size:=⟨_,rfl⟩;obtain ⟨eb,heb⟩:∃ eb,eb=w.heap.size+1:=⟨_,rfl⟩;obtain ⟨rb,hrb⟩:∃ rb,rb=w.heap.size+1+1:=⟨_,rfl⟩;have HEW:Hid (EvW x v am cm al cl gx eb rb (.slice d1 x.berths.length q1) (.slice (some ⟨g2,0,none⟩) x.services.length q2) (.slice d3 x.copies.length q3) w w4 w5):=⟨by rw [hgx];exact hk5,by rw [heb];exact HE4.below hbx HE4.lt,by rw [hrb];exact HR4.below hbx HR4.lt,qt hB4 hbx,by rw [hgx];exact hbx,by omega,by omega,by omega,by omega⟩;have HGX:Hid (w4.heap.size=gx):=hgx.symm;go_upto_region 2 with (refine Ad rfl 41 _ _ rfl w4.heap.size 0 (ffA x d1 q1 (some ⟨g2,0,none⟩) q2 d3 q3) rfl rfl HTS Ak (by simp [Value.oneCell']) w5 HW5 ?_);clear HTS HW5 hza hbx hk5 HE4 HR4 hB4 HF3 HE3 HR3 hsf hs1 hs2 hoc hb4 hr4 hkB hwB hg2;rw [← HGX.out] at hgx;clear hgx;rw [HGX.out,← hrb,← heb];have HRB0:rb<w3.heap.size:=by rw [hrb];exact HRL
 clear heb hrb HRL;have HRB:Hid (rb<w3.heap.size):=HRB0;have _hv:=And.intro hvm hvl;clear _hv;have hkd:v.kind=3:=hk0.out;have k0:w5.cell? ⟨eb,0,none⟩=some (.int .i64 3):=by rw [← hkd];exact HEW.out.he.cell rfl
 have HEV:Hid (evF x v=some { x with copies:=(Aq Cpy.name x.copies v.copy) }):=by
  show evF x v=_
  simp [evF,hkd]
 clear hkd;obtain ⟨i0,hi,hz0,hz1,hz2⟩:=info_parts Fq;have HII:=iH hi;clear hi;have hhi:x.copies.length≤60:=by omega
 go_upto_region 22 with fail;clear k0;have HSG:Hid (SlF d3 x.copies.length q3):=by
  obtain ⟨_,h9,_⟩:=HOC.out;exact SlF.of h9
 rcases HSG.out with ⟨hdn,hln,hqn⟩ | ⟨gl,hdn,hcq,hcm⟩
 ·skip
  subst hdn;subst hqn;rw [hln] at HEW;have hlg:w3.heap.size≤gx:=by have h8:=HGX.out;omega
  obtain ⟨cs,hcs⟩:∃ cs:List Value,cs=[]:=⟨_,rfl⟩;have HC1:Hid (cs.length=x.copies.length*12):=by show _=_;rw [hcs,hln];rfl
  have HC3:Hid (∀ u∈cs,u.oneCell'=true):=fun u hu=>by rw [hcs] at hu;cases hu
  have HC4:Hid (EAt vCp Cpy.likes LikC 2 12 bs w4 cs x.copies):=fun j y h=>by have h9:=Ae h;omega
  have HCW:Hid (∀ wy,EvW x v am cm al cl gx eb rb (.slice d1 x.berths.length q1) (.slice (some ⟨g2,0,none⟩) x.services.length q2) (.slice none 0 0) w w4 wy→∀ ad,(none:OA)=some ad→∀ j u,cs[j]?=some u→wy.cell? (ad.add j)=some u):=fun wy hy ad e=>by cases e
  clear hcs;go_wp2_with fail;go_loopw [11] (fun i wr=>i=.int .i64 0∧Hid (EvW x v am cm al cl gx eb rb (.slice d1 x.berths.length q1) (.slice (some ⟨g2,0,none⟩) x.services.length q2) (.slice none 0 0) w w4 wr)) (fun i _=>0)
  case atStart=>exact ⟨rfl,HEW⟩
  case round =>
   clear HEW;obtain ⟨rfl,HEr⟩:=hrel;have kx:wr.cell? ⟨gx,3,none⟩=some (.slice none 0 0):=HEr.out.hx.cell rfl;go_upto_region 23 with fail
   go_region
   have HEc:=iH HEr.out.drew;have kxd:wr.drew.cell? ⟨gx,3,none⟩=some (.slice none 0 0):=kx;clear kx HEr;generalize wr.drew=wa at *;go_upto_region 26 with fail
   go_region
   replace HEc:=iH HEc.out.drew;clear kxd;generalize wa.drew=wc at *;go_upto_region 28 with fail;obtain ⟨k,hk⟩:∃ k:Nat,k≤0:=⟨0,Nat.le_refl _⟩;obtain ⟨nr,hnr⟩:∃ nr:Nat,nr≤0:=⟨0,Nat.le_refl _⟩;have hkle:k≤x.copies.length:=by omega
   have HPE:Hid ((Aq Cpy.name x.copies v.copy)=x.copies.take k++v.copy::x.copies.drop k):=by
    show _=_
    rw [List.length_eq_zero_iff.1 hln];simp [Aq,Nm]
   refine Av (S:=fun wy=>Blk gx (fgA x.pack d1 x.berths.length q1 (some ⟨g2,0,none⟩) x.services.length q2 none 0 0) 41 wy∧Blk eb (eeA v am cm al cl) 50 wy) 14 (by kernel_rfl) ⟨HEc.out.hx.drew,HEc.out.he.drew⟩ (fun hS=>?_);have HN:=iH HEc.out.drew;clear HEc;generalize wc.drew=wn at *;refine tv 1 ⟨some 157,_,_,_,_,none⟩ (.pointer (some ⟨gx,3,none⟩)) rfl (by rfl) ?_ hS ?_
   ·intro wy hy
    clear hy;go_simp
   simp only [pX];refine tv 2 ⟨some 158,_,_,_,_,none⟩ (.slice none 0 0) rfl (by rfl) ?_ hS ?_
   ·intro wy hy
    have h0:wy.cell? ⟨gx,3,none⟩=some (.slice none 0 0):=Blk.cell hy.1 rfl;clear hy;go_simp
   simp only [pX];refine tv 3 ⟨some 159,_,_,_,_,none⟩ (.int .i64 k) rfl (by rfl) ?_ hS ?_
   ·intro wy hy
    clear hy
    first | (go_simp;done) | (go_simp;omega)
   simp only [pX];refine tv 4 ⟨some 160,_,_,_,_,none⟩ (.slice none k 0) rfl (by rfl) ?_ hS ?_
   ·intro wy hy
    clear hy
    (obtain rfl:k=0:=(by omega));go_simp
   simp only [pX];refine tv 6 ⟨some 162,_,_,_,_,none⟩ (.pointer (some ⟨eb,7,none⟩)) rfl (by rfl) ?_ hS ?_
   ·intro wy hy
    clear hy;go_simp
   simp only [pX];refine tu 7 ⟨some 163,_,_,_,_,none⟩ (.agg (ccA v.copy al cl)) rfl (yieldsIf_load_mid (by rfl) _ _ rfl eb (7) rfl (ccL v.copy al cl) _ (fun _ h=>Go.Proofs.YtihnjndnkgnmaaaGreat.rb h.2 (7) (ccL v.copy al cl)) Tryz.underlying48 rfl Bh) hS ?_;simp only [pX];refine tv 11 ⟨some 167,_,_,_,_,none⟩ (.slice none nr 0) rfl (by rfl) ?_ hS ?_
   ·intro wy hy
    clear hy
    first | (go_simp;done) | (go_simp;omega)
   simp only [pX];refine ru1 0 ⟨some 156,_,_,_,_,none⟩ rfl (fun KK hKK=>?_);go_simp;have hal:=(Below.refl _ wn).alloc nL (Obj.cells #[] 48);have HRw:Hid ((wn.alloc (Obj.cells #[] 48)).ownsRow wn.heap.size 48 12 (.slice (some ⟨wn.heap.size,0,none⟩) 0 0) 0 []):=World.ownsRow_made wn #[] 0 nL (zL) rfl;have hgn:gx<wn.heap.size:=HN.out.hx.lt;replace HN:=iH (HN.out.below hal);refine hKK.out _ _ ⟨HN.out.hx,HN.out.he⟩ (fun hS=>?_);clear hKK KK hal;generalize wn.heap.size=h0 at *;generalize wn.alloc (Obj.cells #[] 48)=wo at *;have HH0:Hid (h0≤wo.heap.size):=lE (HRw.out.lt h0 rfl).2;refine ru1 5 ⟨some 161,_,_,_,_,none⟩ rfl (fun KK hKK=>?_);rw [if_pos (by rfl)];refine Au (.tmp 156) (.tmp 160) 39 (by rfl) h0 48 i0 _ 12 160 Tryz.underlying39 HII hz0 hz1 hz2 rfl (by decide) _ 0 _ (by rfl) HRw none k 0 (cs.take (k*12)) (by rfl) (fun _=>by omega) (by rw [List.length_take,HC1.out];have h9:=Nat.mul_le_mul_right 12 hkle;omega) (fun ad e j u hj=>HCW.out wo HN ad e j u (by have h9:=Ae hj;simp only [List.length_take] at h9;rwa [List.getElem?_take_of_lt (by omega)] at hj)) (fun u hu=>HC3.out u (List.mem_of_mem_take hu)) (by unfold maxLen;omega) (by omega) HH0 ?_;intro v' wp hown hgrow hnil hblk;have hv:v'≠.slice none 0 0:=(fun e=>by have h9:=(hnil.1 e).1;cases h9);rw [Nat.zero_add,List.nil_append] at hown;obtain ⟨e1,p1,rfl⟩:=Dj hown hv;have hrow:∀ r,Value.ownBlock _=some r→gx<r:=fun r e=>lL hgn (HRw.out.lt r e).1
   have HNo:=HN;replace HN:=iH (HN.out.grown hgrow hrow);have hRl:=HRw.out.lt;replace HRw:=iH hown;have HH1:=iH (lT HH0 hgrow.size);refine hKK.out _ _ ⟨HN.out.hx,HN.out.he⟩ (fun hS=>?_);clear hKK KK hown hgrow hnil hblk hv hrow HH0 HNo hRl;have HH0:=HH1;clear HH1;simp only [pX];refine ru1 8 ⟨some 164,_,_,_,_,none⟩ rfl (fun KK hKK=>?_);go_simp;refine (Gh v.copy al cl lo _ (NL.out.below LikC.holds HN.out.hb nL) hvl).mono ?_;rintro e w8 ⟨gm,qm,rfl,hsm,hgm1,hgm2,hb8⟩;have HSM:=iH hsm;have hwp:h0≤wp.heap.size:=HH0.out;have he1:=(HRw.out.lt e1 rfl).2;replace HN:=iH (HN.out.below hb8);replace HRw:=iH (Al HRw hb8);have HH1:=iH (lT HH0 hb8.size);refine hKK.out _ _ ⟨HN.out.hx,HN.out.he⟩ (fun hS=>?_);clear hKK KK hsm hb8 HH0;have HH0:=HH1;clear HH1;refine ru1 9 ⟨some 165,_,_,_,_,none⟩ rfl (fun KK hKK=>?_);go_simp;have hal:=(Below.refl _ w8).alloc nL (Obj.cells (ccA v.copy (some ⟨gm,0,none⟩) qm) 48);have NC:=iH (Blk.alloc w8 (ccA v.copy (some ⟨gm,0,none⟩) qm) 48);replace HN:=iH (HN.out.below hal);replace HRw:=iH (Al HRw hal);replace HSM:=qS LikC.holds HSM hal;have HH1:=iH (lT HH0 hal.size);have hn8:e1<w8.heap.size∧gm<w8.heap.size∧wp.heap.size≤gm:=⟨lL he1 (lT hgm1 (lE hgm2)),hgm2,hgm1⟩;refine hKK.out _ _ ⟨HN.out.hx,HN.out.he⟩ (fun hS=>?_);clear hKK KK hal HH0;have HH0:=HH1;clear HH1;generalize w8.alloc (Obj.cells (ccA v.copy (some ⟨gm,0,none⟩) qm) 48)=w9 at *;generalize w8.heap.size=gn at *;refine ru1 10 ⟨some 166,_,_,_,_,none⟩ rfl (fun KK hKK=>?_);rw [if_pos (by rfl)];refine Au (.tmp 161) (.tmp 165) 39 (by rfl) h0 48 i0 _ 12 160 Tryz.underlying39 HII hz0 hz1 hz2 rfl (by decide) _ k _ (by rfl) HRw (some ⟨gn,0,none⟩) 1 1 (vCp v.copy (.slice (some ⟨gm,0,none⟩) v.copy.likes.length qm)) (by rfl) (fun h=>(by cases h)) rfl (fun ad e j u hj=>by cases e;rw [Addr.add_mid];exact NC.out.rangeA j u hj) (Ib v.copy _ _ qm) (by unfold maxLen;omega) (by omega) HH0 ?_;intro v' wr hown hgrow hnil hblk;have hv:v'≠.slice none 0 0:=(fun e=>by have h9:=(hnil.1 e).1;cases h9);skip;obtain ⟨e2,p2,rfl⟩:=Dj hown hv;have hrow:∀ r,Value.ownBlock _=some r→gx<r:=fun r e=>lL hgn (HRw.out.lt r e).1
   have HNo:=HN;replace HN:=iH (HN.out.grown hgrow hrow);have hE2:e2=e1∨e2=w9.heap.size:=by
    rcases hblk with h9 | h9
    ·exact .inl (Option.some.inj h9)
    ·exact .inr (Option.some.inj h9)
   have hg9:gm<w9.heap.size:=lL hn8.2.1 (lE NC.out.lt);replace HSM:=iH (Ai LikC.flat HSM hgrow (fun b o e hn e2=>by cases e;have e3:gm=e1:=Option.some.inj e2;omega));have hme:gm≠e2:=by omega
   have hRl:=HRw.out.lt;replace HRw:=iH hown;have HH1:=iH (lT HH0 hgrow.size);refine hKK.out _ _ ⟨HN.out.hx,HN.out.he⟩ (fun hS=>?_);clear hKK KK hown hgrow hnil hblk hv hrow HH0 HNo hRl;have HH0:=HH1;clear HH1;simp only [pX];refine ru1 12 ⟨some 168,_,_,_,_,none⟩ rfl (fun KK hKK=>?_);rw [if_pos (by rfl)];refine Au (.tmp 166) (.tmp 167) 39 (by rfl) h0 48 i0 _ 12 160 Tryz.underlying39 HII hz0 hz1 hz2 rfl (by decide) _ (k+1) _ (by rfl) HRw none nr 0 (cs.drop (k*12)) (by rfl) (fun _=>by omega) (by rw [List.length_drop,HC1.out,← Nat.sub_mul];congr 1;omega) (fun ad e j u hj=>by cases e) (fun u hu=>HC3.out u (List.mem_of_mem_drop hu)) (by unfold maxLen;omega) (by omega) HH0 ?_;intro v' ws hown hgrow hnil hblk;have hv:v'≠.slice none 0 0:=(fun e=>by have h9:=(hnil.1 e).1;cases h9);skip;obtain ⟨e3,p3,rfl⟩:=Dj hown hv;have hrow:∀ r,Value.ownBlock _=some r→gx<r:=fun r e=>lL hgn (HRw.out.lt r e).1
   have HNo:=HN;replace HN:=iH (HN.out.grown hgrow hrow);replace HSM:=iH (Ai LikC.flat HSM hgrow (fun b o e hn e2=>by cases e;exact hme (Option.some.inj e2)));have hRl:=HRw.out.lt;replace HRw:=iH hown;have HH1:=iH (lT HH0 hgrow.size);refine hKK.out _ _ ⟨HN.out.hx,HN.out.he⟩ (fun hS=>?_);clear hKK KK hown hgrow hnil hblk hv hrow HH0 HNo hRl;have HH0:=HH1;clear HH1;simp only [pX];refine tv 13 ⟨some 169,_,_,_,_,none⟩ (.pointer (some ⟨gx,3,none⟩)) rfl (by rfl) ?_ hS ?_
   ·intro wy hy
    clear hy;go_simp
   simp only [pX];have kz:=HN.out.hx.cell (o:=3) rfl;have fz:=HN.out.hx.frozen 3;refine Bb (rs:=[14]) (by kernel_rfl) (by simp) (AllReadyU.last (o:=⟨none,_,_,_,_,none⟩) rfl (fun KK hKK=>?_));go_simp;clear kz fz;have HN9:=iH (HN.out.set3 (.slice (some ⟨e3,0,none⟩) (k+1+nr) p3));have HR9:=iH (Cb (i:=3) HRw hgn (.slice (some ⟨e3,0,none⟩) (k+1+nr) p3));have HSM9:=iH (Ai LikC.flat HSM (Bd ws ⟨gx,3,none⟩ (.slice (some ⟨e3,0,none⟩) (k+1+nr) p3)) (fun b o e hn e2=>by cases e;have e3:gm=gx:=Option.some.inj e2;omega));refine hKK.out _ _ (Bl (by kernel_rfl) ?_ _);clear hKK KK hS HN HRw HSM NC;generalize ws.setCell ⟨gx,3,none⟩ (.slice (some ⟨e3,0,none⟩) (k+1+nr) p3)=wt at *;have hpl:k+1+nr=(Aq Cpy.name x.copies v.copy).length:=by
    rw [HPE.out,List.length_append,List.length_take,List.length_cons,List.length_drop];omega
   rw [hpl] at HN9 HR9 ⊢;go_upto_region 39 with fail;have HTR:=iH HN9.out.hr.there;have HLX:=iH HN9.out.hx.rangeA;obtain ⟨wz,HWZ⟩:∃ w',Hid (w'=wt.setCells rb 0 (fgL x.pack d1 x.berths.length q1 (some ⟨g2,0,none⟩) x.services.length q2 (some ⟨e3,0,none⟩) (Aq Cpy.name x.copies v.copy).length p3)):=⟨_,rfl⟩;have HRZ:Hid (wz.rangeAt rb 0 (fgL x.pack d1 x.berths.length q1 (some ⟨g2,0,none⟩) x.services.length q2 (some ⟨e3,0,none⟩) (Aq Cpy.name x.copies v.copy).length p3)):=by
    show World.rangeAt _ _ _ _
    rw [HWZ.out];exact World.rangeAt_setCells_same _ _ _ _ HTR
   have hBZ:Below w.heap.size w wz:=by
    have k1:=HN9.out.i1;have k2:=HN9.out.i2;rw [HWZ.out];exact Ac (by omega) _ _ _ HN9.out.hb
   have hRB:rb<w3.heap.size:=HRB.out;have HKV:Hid (Keeps w3.heap.size w4 wz):=by
    show Keeps _ _ _
    rw [HWZ.out];have h9:Keeps w3.heap.size w4 wt:=Keeps.of_below HN9.out.h4 (Nat.le_of_eq HGX) _;exact h9.trans (Keeps.setCells hRB _ _ _)
   have HKW:Hid (Keeps H wB wz):=HKB.out.trans (HKV.out.up hH1);have HRz:Hid (wz.ownsRow h0 48 12 (.slice (some ⟨e3,0,none⟩) (Aq Cpy.name x.copies v.copy).length p3) (Aq Cpy.name x.copies v.copy).length (cs.take (k*12)++vCp v.copy (.slice (some ⟨gm,0,none⟩) v.copy.likes.length qm)++cs.drop (k*12))):=by
    show World.ownsRow _ _ _ _ _ _ _
    rw [HWZ.out];exact Doq HR9 (by have h9:=HN9.out.i3;omega) _
   have HSMz:Hid (SliceC LikC 2 w3.heap.size wz (some ⟨gm,0,none⟩) v.copy.likes):=by
    show SliceC _ _ _ _ _ _
    rw [HWZ.out];exact (Ai LikC.flat HSM9 (Ao _ _ _) (fun b o e hn e2=>by cases e;have e3:gm=rb:=Option.some.inj e2;have h9:=HN9.out.i3;omega)).keep LikC.holds (Keeps.refl _ _) (by have h9:=hlg;omega)
   have HEz:Hid (EAt vCp Cpy.likes LikC 2 12 w3.heap.size wz (cs.take (k*12)++vCp v.copy (.slice (some ⟨gm,0,none⟩) v.copy.likes.length qm)++cs.drop (k*12)) (Aq Cpy.name x.copies v.copy)):=by
    show EAt _ _ _ _ _ _ _ _ _
    rw [HPE.out,List.append_assoc];have e1:=((HC4.out.take Be k).keep LikC.holds (HKV.out.up (lT hH1 hH2))).lower LikC.holds (lT hH1 hH2);have e2:=EAt.one (V:=vCp) (n:=12) (ce:=qm) (x:=v.copy) (sub:=Cpy.likes) HSMz;have e3:=((HC4.out.drop k).keep LikC.holds (HKV.out.up (lT hH1 hH2))).lower LikC.holds (lT hH1 hH2);exact e1.app Be (by rw [List.length_take,List.length_take,HC1.out,Nat.min_eq_left hkle,Nat.min_eq_left (Nat.mul_le_mul_right 12 hkle)]) (e2.app Be (by rw [Be];rfl) e3)
   obtain ⟨d9,q9,e9,hsl⟩:=Hg HRz (by have h9:=hlg;omega) HEz (fun y hy=>by rcases Eh hy with h | h;(subst h;exact HZ3.out _ (by simp));exact HZC.out y h) (by have h9:=Dn Cpy.name x.copies v.copy;unfold maxLen;omega);have e8:some ⟨e3,0,none⟩=d9:=by injection e9
   subst e8;have HSL:=iH hsl;clear hsl e9;go_wp2_with (first | (refine lr Bw HLX ?_) | (refine Ad rfl 41 _ _ rfl rb 0 (fgA x.pack d1 x.berths.length q1 (some ⟨g2,0,none⟩) x.services.length q2 (some ⟨e3,0,none⟩) (Aq Cpy.name x.copies v.copy).length p3) rfl rfl HTR Ak (by simp [Value.oneCell']) wz HWZ ?_));exact bodyPost_ret (Bn rfl _ _ rb (fgL x.pack d1 x.berths.length q1 (some ⟨g2,0,none⟩) x.services.length q2 (some ⟨e3,0,none⟩) (Aq Cpy.name x.copies v.copy).length p3) _ rfl HRZ Tryz.underlying41 rfl Ak) rfl (.inr ⟨{ x with copies:=(Aq Cpy.name x.copies v.copy) },d1,q1,some ⟨g2,0,none⟩,q2,some ⟨e3,0,none⟩,p3,HEV,rfl,(HS1.out.keep BrtC.holds HKW (lT hHw hH1)),(HS2.out.keep SvcC.holds HKV hHw),HSL.out.keep CpyC.holds (Keeps.refl _ _) hHw,hBZ⟩)
 ·skip
  subst hdn;unfold maxLen at hcm;obtain ⟨cs,hc1,hc2,hc3,hc4⟩:=Hr (HOC.out.copies HZC (by unfold maxLen;omega));have HC1:=iH hc1;have HC2:=iH hc2;have HC3:=iH hc3;have HC4:Hid (EAt vCp Cpy.likes LikC 2 12 bs w4 cs x.copies):=hc4;clear hc1 hc2 hc3 hc4;obtain ⟨hga,hgb⟩:bs≤gl∧gl<gx:=by
   obtain ⟨_,hco,_⟩:=HOC.out;have h8:=hco.lt gl rfl;rw [HGX.out] at h8;exact h8
  have hlg:w3.heap.size≤gx:=by have h8:=HGX.out;omega
  have HCT:Hid (∀ wy,EvW x v am cm al cl gx eb rb (.slice d1 x.berths.length q1) (.slice (some ⟨g2,0,none⟩) x.services.length q2) (.slice (some ⟨gl,0,none⟩) x.copies.length q3) w w4 wy→0<x.copies.length→∀ o u,w4.cell? ⟨gl,o,none⟩=some u→wy.cell? ⟨gl,o,none⟩=some u):=fun wy hy _ o u h=>(hy.h4.cell (p:=⟨gl,o,none⟩) hgb).trans h
  have HCW:Hid (∀ wy,EvW x v am cm al cl gx eb rb (.slice d1 x.berths.length q1) (.slice (some ⟨g2,0,none⟩) x.services.length q2) (.slice (some ⟨gl,0,none⟩) x.copies.length q3) w w4 wy→∀ ad,((some ⟨gl,0,none⟩):OA)=some ad→∀ j u,cs[j]?=some u→wy.cell? (ad.add j)=some u):=fun wy hy ad e j u h=>by
   cases e
   have h9:=HC2.out j u h;have hp:0<x.copies.length:=by
    have h8:=Ae h;have h7:=HC1.out;omega
   rw [Addr.add_mid] at h9 ⊢;exact HCT.out wy hy hp _ u h9
  have HHN:Hid (∀ k y,x.copies[k]?=some y→cs[k*12]?=some (.string y.name)):=fun k y h=>by
   obtain ⟨ae,ce,q1,_⟩:=HC4.out k y h;exact q1 0 _ rfl
  go_wp2_with fail;go_loopw [11] (fun i wr=>∃ k:Nat,k≤x.copies.length∧i=.int .i64 k∧Hid (∀ t∈x.copies.take k,ltN t.name v.copy.name=true)∧Hid (EvW x v am cm al cl gx eb rb (.slice d1 x.berths.length q1) (.slice (some ⟨g2,0,none⟩) x.services.length q2) (.slice (some ⟨gl,0,none⟩) x.copies.length q3) w w4 wr)) (fun i _=>x.copies.length - (intOf i).toNat)
  case atStart=>exact ⟨0,zL,rfl,(fun t ht=>by cases ht),HEW⟩
  case round =>
   clear HEW;obtain ⟨k,hk,rfl,HL,HEr⟩:=hrel;have kx:wr.cell? ⟨gx,3,none⟩=some (.slice (some ⟨gl,0,none⟩) x.copies.length q3):=HEr.out.hx.cell rfl;have ke:wr.cell? ⟨eb,7,none⟩=some (.string v.copy.name):=HEr.out.he.cell rfl;by_cases hlt:k<x.copies.length
   ·skip
    obtain ⟨y,hy⟩:=gX hlt;have kn:wr.cell? ⟨gl,k*12,none⟩=some (.string y.name):=by
     have h9:=HC2.out _ _ (HHN k y hy);rw [Addr.add_mid,Nat.zero_add] at h9;exact HCT.out wr HEr (by omega) _ _ h9
    have ik:(k:Int)<(x.copies.length:Int):=by omega
    have ij0:(0:Int)≤(k:Int):=by omega
    cases hlt2:Op.bytesLess y.name.toList v.copy.name.toList with
    | true =>
     have HL2:Hid (∀ t∈x.copies.take (k+1),ltN t.name v.copy.name=true):=by
      intro t ht;rw [List.take_add_one,hy] at ht;rcases List.mem_append.1 ht with h1 | h1
      ·exact HL.out t h1
      ·simp at h1
       subst h1;exact hlt2
     clear hy HL;go_upto_region 23 with fail
     go_region
     have HE2:=iH HEr.out.drew;clear kx ke kn HEr;go_wp2_with fail;go_roundw
     case rel=>exact ⟨k+1,by omega,by go_num,HL2,HE2⟩
     case measure=>simp [intOf];omega
    | false =>
     have hck:¬ q3=k:=by omega
     have h0k:0<x.copies.length - k:=by omega
     have h0i:(0:Int)<((x.copies.length - k:Nat):Int):=by omega
     have HY:=iH hy;clear hy;go_upto_region 23 with fail
     go_region
     have HEc:=iH HEr.out.drew;have kxd:wr.drew.cell? ⟨gx,3,none⟩=some (.slice (some ⟨gl,0,none⟩) x.copies.length q3):=kx;have ked:wr.drew.cell? ⟨eb,7,none⟩=some (.string v.copy.name):=ke;have knd:wr.drew.cell? ⟨gl,k*12,none⟩=some (.string y.name):=kn;clear kx ke kn HEr ik;generalize wr.drew=wa at *;go_upto_region 26 with fail;by_cases hne:y.name=v.copy.name
     ·have HPE:=iH (Jm (nm:=Cpy.name) (a:=v.copy) HL HY hlt2 hne)
      rw [hne] at knd;clear hne hlt2 HL HY;have h1k:1≤x.copies.length - k:=h0k;have h1c:1≤q3 - k:=by omega
      go_region
      replace HEc:=iH HEc.out.drew;clear kxd ked knd;generalize wa.drew=wc at *;obtain ⟨ro,hrb,HRW⟩:∃ ro,(if q3 - k=1 then some (⟨gl,k*12,none⟩:Addr) else some ⟨gl,k*12+12,none⟩)=some ro∧Hid (∀ wy,EvW x v am cm al cl gx eb rb (.slice d1 x.berths.length q1) (.slice (some ⟨g2,0,none⟩) x.services.length q2) (.slice (some ⟨gl,0,none⟩) x.copies.length q3) w w4 wy→∀ ad,(some ro:OA)=some ad→∀ j u,(cs.drop ((k+1)*12))[j]?=some u→wy.cell? (ad.add j)=some u):=by
       split
       ·refine ⟨_,rfl,fun wy hy ad e j u h=>?_⟩
        have h8:=Ae h;rw [List.length_drop,HC1.out,show x.copies.length=k+1 by omega] at h8;omega
       ·refine ⟨_,rfl,fun wy hy ad e j u h=>?_⟩
        cases e
        rw [List.getElem?_drop] at h;have h9:=HCW.out wy hy _ rfl _ u h;rw [Addr.add_mid] at h9 ⊢;rw [show k*12+12+j=0+((k+1)*12+j) by omega];exact h9
      go_upto_region 28 with fail;clear hrb h0i h0k h1k h1c hck;refine Av (S:=fun wy=>Blk gx (ffA x d1 q1 (some ⟨g2,0,none⟩) q2 (some ⟨gl,0,none⟩) q3) 41 wy∧Blk eb (eeA v am cm al cl) 50 wy) 14 (by kernel_rfl) ⟨HEc.out.hx.drew,HEc.out.he.drew⟩ (fun hS=>?_);have HN:=iH HEc.out.drew;clear HEc;generalize wc.drew=wn at *;refine tv 1 ⟨some 157,_,_,_,_,none⟩ (.pointer (some ⟨gx,3,none⟩)) rfl (by rfl) ?_ hS ?_
      ·intro wy hy
       clear hy;go_simp
      simp only [pX];refine tv 2 ⟨some 158,_,_,_,_,none⟩ (.slice (some ⟨gl,0,none⟩) x.copies.length q3) rfl (by rfl) ?_ hS ?_
      ·intro wy hy
       have h0:wy.cell? ⟨gx,3,none⟩=some (.slice (some ⟨gl,0,none⟩) x.copies.length q3):=Blk.cell hy.1 rfl;clear hy;go_simp
      simp only [pX];refine tv 3 ⟨some 159,_,_,_,_,none⟩ (.int .i64 k) rfl (by rfl) ?_ hS ?_
      ·intro wy hy
       clear hy
       first | (go_simp;done) | (go_simp;omega)
      simp only [pX];refine tv 4 ⟨some 160,_,_,_,_,none⟩ (.slice (some ⟨gl,0,none⟩) k q3) rfl (by rfl) ?_ hS ?_
      ·intro wy hy
       clear hy
       (go_simp;try omega)
      simp only [pX];refine tv 6 ⟨some 162,_,_,_,_,none⟩ (.pointer (some ⟨eb,7,none⟩)) rfl (by rfl) ?_ hS ?_
      ·intro wy hy
       clear hy;go_simp
      simp only [pX];refine tu 7 ⟨some 163,_,_,_,_,none⟩ (.agg (ccA v.copy al cl)) rfl (yieldsIf_load_mid (by rfl) _ _ rfl eb (7) rfl (ccL v.copy al cl) _ (fun _ h=>Go.Proofs.YtihnjndnkgnmaaaGreat.rb h.2 (7) (ccL v.copy al cl)) Tryz.underlying48 rfl Bh) hS ?_;simp only [pX];refine tv 11 ⟨some 167,_,_,_,_,none⟩ (.slice (some ro) (x.copies.length - k - 1) (q3 - k - 1)) rfl (by rfl) ?_ hS ?_
      ·intro wy hy
       clear hy
       first | (go_simp;done) | (go_simp;omega)
      simp only [pX];refine ru1 0 ⟨some 156,_,_,_,_,none⟩ rfl (fun KK hKK=>?_);go_simp;have hal:=(Below.refl _ wn).alloc nL (Obj.cells #[] 48);have HRw:Hid ((wn.alloc (Obj.cells #[] 48)).ownsRow wn.heap.size 48 12 (.slice (some ⟨wn.heap.size,0,none⟩) 0 0) 0 []):=World.ownsRow_made wn #[] 0 nL (zL) rfl;have hgn:gx<wn.heap.size:=HN.out.hx.lt;replace HN:=iH (HN.out.below hal);refine hKK.out _ _ ⟨HN.out.hx,HN.out.he⟩ (fun hS=>?_);clear hKK KK hal;generalize wn.heap.size=h0 at *;generalize wn.alloc (Obj.cells #[] 48)=wo at *;have HH0:Hid (h0≤wo.heap.size):=lE (HRw.out.lt h0 rfl).2;refine ru1 5 ⟨some 161,_,_,_,_,none⟩ rfl (fun KK hKK=>?_);rw [if_pos (by rfl)];refine Au (.tmp 156) (.tmp 160) 39 (by rfl) h0 48 i0 _ 12 160 Tryz.underlying39 HII hz0 hz1 hz2 rfl (by decide) _ 0 _ (by rfl) HRw (some ⟨gl,0,none⟩) k q3 (cs.take (k*12)) (by rfl) (fun h=>(by cases h)) (by rw [List.length_take,HC1.out];have h9:=Nat.mul_le_mul_right 12 (lE hlt);omega) (fun ad e j u hj=>HCW.out wo HN ad e j u (by have h9:=Ae hj;simp only [List.length_take] at h9;rwa [List.getElem?_take_of_lt (by omega)] at hj)) (fun u hu=>HC3.out u (List.mem_of_mem_take hu)) (by unfold maxLen;omega) (by omega) HH0 ?_;intro v' wp hown hgrow hnil hblk;have hv:v'≠.slice none 0 0:=(fun e=>by have h9:=(hnil.1 e).1;cases h9);rw [Nat.zero_add,List.nil_append] at hown;obtain ⟨e1,p1,rfl⟩:=Dj hown hv;have hrow:∀ r,Value.ownBlock _=some r→gx<r:=fun r e=>lL hgn (HRw.out.lt r e).1
      have HNo:=HN;replace HN:=iH (HN.out.grown hgrow hrow);have hRl:=HRw.out.lt;replace HRw:=iH hown;have HH1:=iH (lT HH0 hgrow.size);refine hKK.out _ _ ⟨HN.out.hx,HN.out.he⟩ (fun hS=>?_);clear hKK KK hown hgrow hnil hblk hv hrow HH0 HNo hRl;have HH0:=HH1;clear HH1;simp only [pX];refine ru1 8 ⟨some 164,_,_,_,_,none⟩ rfl (fun KK hKK=>?_);go_simp;refine (Gh v.copy al cl lo _ (NL.out.below LikC.holds HN.out.hb nL) hvl).mono ?_;rintro e w8 ⟨gm,qm,rfl,hsm,hgm1,hgm2,hb8⟩;have HSM:=iH hsm;have hwp:h0≤wp.heap.size:=HH0.out;have he1:=(HRw.out.lt e1 rfl).2;replace HN:=iH (HN.out.below hb8);replace HRw:=iH (Al HRw hb8);have HH1:=iH (lT HH0 hb8.size);refine hKK.out _ _ ⟨HN.out.hx,HN.out.he⟩ (fun hS=>?_);clear hKK KK hsm hb8 HH0;have HH0:=HH1;clear HH1;refine ru1 9 ⟨some 165,_,_,_,_,none⟩ rfl (fun KK hKK=>?_);go_simp;have hal:=(Below.refl _ w8).alloc nL (Obj.cells (ccA v.copy (some ⟨gm,0,none⟩) qm) 48);have NC:=iH (Blk.alloc w8 (ccA v.copy (some ⟨gm,0,none⟩) qm) 48);replace HN:=iH (HN.out.below hal);replace HRw:=iH (Al HRw hal);replace HSM:=qS LikC.holds HSM hal;have HH1:=iH (lT HH0 hal.size);have hn8:e1<w8.heap.size∧gm<w8.heap.size∧wp.heap.size≤gm:=⟨lL he1 (lT hgm1 (lE hgm2)),hgm2,hgm1⟩;refine hKK.out _ _ ⟨HN.out.hx,HN.out.he⟩ (fun hS=>?_);clear hKK KK hal HH0;have HH0:=HH1;clear HH1;generalize w8.alloc (Obj.cells (ccA v.copy (some ⟨gm,0,none⟩) qm) 48)=w9 at *;generalize w8.heap.size=gn at *;refine ru1 10 ⟨some 166,_,_,_,_,none⟩ rfl (fun KK hKK=>?_);rw [if_pos (by rfl)];refine Au (.tmp 161) (.tmp 165) 39 (by rfl) h0 48 i0 _ 12 160 Tryz.underlying39 HII hz0 hz1 hz2 rfl (by decide) _ k _ (by rfl) HRw (some ⟨gn,0,none⟩) 1 1 (vCp v.copy (.slice (some ⟨gm,0,none⟩) v.copy.likes.length qm)) (by rfl) (fun h=>(by cases h)) rfl (fun ad e j u hj=>by cases e;rw [Addr.add_mid];exact NC.out.rangeA j u hj) (Ib v.copy _ _ qm) (by unfold maxLen;omega) (by omega) HH0 ?_;intro v' wr hown hgrow hnil hblk;have hv:v'≠.slice none 0 0:=(fun e=>by have h9:=(hnil.1 e).1;cases h9);skip;obtain ⟨e2,p2,rfl⟩:=Dj hown hv;have hrow:∀ r,Value.ownBlock _=some r→gx<r:=fun r e=>lL hgn (HRw.out.lt r e).1
      have HNo:=HN;replace HN:=iH (HN.out.grown hgrow hrow);have hE2:e2=e1∨e2=w9.heap.size:=by
       rcases hblk with h9 | h9
       ·exact .inl (Option.some.inj h9)
       ·exact .inr (Option.some.inj h9)
      have hg9:gm<w9.heap.size:=lL hn8.2.1 (lE NC.out.lt);replace HSM:=iH (Ai LikC.flat HSM hgrow (fun b o e hn e2=>by cases e;have e3:gm=e1:=Option.some.inj e2;omega));have hme:gm≠e2:=by omega
      have hRl:=HRw.out.lt;replace HRw:=iH hown;have HH1:=iH (lT HH0 hgrow.size);refine hKK.out _ _ ⟨HN.out.hx,HN.out.he⟩ (fun hS=>?_);clear hKK KK hown hgrow hnil hblk hv hrow HH0 HNo hRl;have HH0:=HH1;clear HH1;simp only [pX];refine ru1 12 ⟨some 168,_,_,_,_,none⟩ rfl (fun KK hKK=>?_);rw [if_pos (by rfl)];refine Au (.tmp 166) (.tmp 167) 39 (by rfl) h0 48 i0 _ 12 160 Tryz.underlying39 HII hz0 hz1 hz2 rfl (by decide) _ (k+1) _ (by rfl) HRw (some ro) (x.copies.length - k - 1) (q3 - k - 1) (cs.drop ((k+1)*12)) (by rfl) (fun h=>(by cases h)) (by first | (rw [List.length_drop,HC1.out,← Nat.sub_mul];done) | (rw [List.length_drop,HC1.out,← Nat.sub_mul];congr 1;done) | (rw [List.length_drop,HC1.out,← Nat.sub_mul];congr 1;omega)) (fun ad e j u hj=>HRW.out wr HN ad e j u hj) (fun u hu=>HC3.out u (List.mem_of_mem_drop hu)) (by unfold maxLen;omega) (by omega) HH0 ?_;intro v' ws hown hgrow hnil hblk;have hv:v'≠.slice none 0 0:=(fun e=>by have h9:=(hnil.1 e).1;cases h9);skip;obtain ⟨e3,p3,rfl⟩:=Dj hown hv;have hrow:∀ r,Value.ownBlock _=some r→gx<r:=fun r e=>lL hgn (HRw.out.lt r e).1
      have HNo:=HN;replace HN:=iH (HN.out.grown hgrow hrow);replace HSM:=iH (Ai LikC.flat HSM hgrow (fun b o e hn e2=>by cases e;exact hme (Option.some.inj e2)));have hRl:=HRw.out.lt;replace HRw:=iH hown;have HH1:=iH (lT HH0 hgrow.size);refine hKK.out _ _ ⟨HN.out.hx,HN.out.he⟩ (fun hS=>?_);clear hKK KK hown hgrow hnil hblk hv hrow HH0 HNo hRl;have HH0:=HH1;clear HH1;simp only [pX];refine tv 13 ⟨some 169,_,_,_,_,none⟩ (.pointer (some ⟨gx,3,none⟩)) rfl (by rfl) ?_ hS ?_
      ·intro wy hy
       clear hy;go_simp
      simp only [pX];have kz:=HN.out.hx.cell (o:=3) rfl;have fz:=HN.out.hx.frozen 3;refine Bb (rs:=[14]) (by kernel_rfl) (by simp) (AllReadyU.last (o:=⟨none,_,_,_,_,none⟩) rfl (fun KK hKK=>?_));go_simp;clear kz fz;have HN9:=iH (HN.out.set3 (.slice (some ⟨e3,0,none⟩) (k+1+(x.copies.length - k - 1)) p3));have HR9:=iH (Cb (i:=3) HRw hgn (.slice (some ⟨e3,0,none⟩) (k+1+(x.copies.length - k - 1)) p3));have HSM9:=iH (Ai LikC.flat HSM (Bd ws ⟨gx,3,none⟩ (.slice (some ⟨e3,0,none⟩) (k+1+(x.copies.length - k - 1)) p3)) (fun b o e hn e2=>by cases e;have e3:gm=gx:=Option.some.inj e2;omega));refine hKK.out _ _ (Bl (by kernel_rfl) ?_ _);clear hKK KK hS HN HRw HSM NC;generalize ws.setCell ⟨gx,3,none⟩ (.slice (some ⟨e3,0,none⟩) (k+1+(x.copies.length - k - 1)) p3)=wt at *;have hpl:k+1+(x.copies.length - k - 1)=(Aq Cpy.name x.copies v.copy).length:=by
       rw [HPE.out,List.length_append,List.length_take,List.length_cons,List.length_drop];omega
      rw [hpl] at HN9 HR9 ⊢;go_upto_region 39 with fail;have HTR:=iH HN9.out.hr.there;have HLX:=iH HN9.out.hx.rangeA;obtain ⟨wz,HWZ⟩:∃ w',Hid (w'=wt.setCells rb 0 (fgL x.pack d1 x.berths.length q1 (some ⟨g2,0,none⟩) x.services.length q2 (some ⟨e3,0,none⟩) (Aq Cpy.name x.copies v.copy).length p3)):=⟨_,rfl⟩;have HRZ:Hid (wz.rangeAt rb 0 (fgL x.pack d1 x.berths.length q1 (some ⟨g2,0,none⟩) x.services.length q2 (some ⟨e3,0,none⟩) (Aq Cpy.name x.copies v.copy).length p3)):=by
       show World.rangeAt _ _ _ _
       rw [HWZ.out];exact World.rangeAt_setCells_same _ _ _ _ HTR
      have hBZ:Below w.heap.size w wz:=by
       have k1:=HN9.out.i1;have k2:=HN9.out.i2;rw [HWZ.out];exact Ac (by omega) _ _ _ HN9.out.hb
      have hRB:rb<w3.heap.size:=HRB.out;have HKV:Hid (Keeps w3.heap.size w4 wz):=by
       show Keeps _ _ _
       rw [HWZ.out];have h9:Keeps w3.heap.size w4 wt:=Keeps.of_below HN9.out.h4 (Nat.le_of_eq HGX) _;exact h9.trans (Keeps.setCells hRB _ _ _)
      have HKW:Hid (Keeps H wB wz):=HKB.out.trans (HKV.out.up hH1);have HRz:Hid (wz.ownsRow h0 48 12 (.slice (some ⟨e3,0,none⟩) (Aq Cpy.name x.copies v.copy).length p3) (Aq Cpy.name x.copies v.copy).length (cs.take (k*12)++vCp v.copy (.slice (some ⟨gm,0,none⟩) v.copy.likes.length qm)++cs.drop ((k+1)*12))):=by
       show World.ownsRow _ _ _ _ _ _ _
       rw [HWZ.out];exact Doq HR9 (by have h9:=HN9.out.i3;omega) _
      have HSMz:Hid (SliceC LikC 2 w3.heap.size wz (some ⟨gm,0,none⟩) v.copy.likes):=by
       show SliceC _ _ _ _ _ _
       rw [HWZ.out];exact (Ai LikC.flat HSM9 (Ao _ _ _) (fun b o e hn e2=>by cases e;have e3:gm=rb:=Option.some.inj e2;have h9:=HN9.out.i3;omega)).keep LikC.holds (Keeps.refl _ _) (by have h9:=hlg;omega)
      have HEz:Hid (EAt vCp Cpy.likes LikC 2 12 w3.heap.size wz (cs.take (k*12)++vCp v.copy (.slice (some ⟨gm,0,none⟩) v.copy.likes.length qm)++cs.drop ((k+1)*12)) (Aq Cpy.name x.copies v.copy)):=by
       show EAt _ _ _ _ _ _ _ _ _
       rw [HPE.out,List.append_assoc];have e1:=((HC4.out.take Be k).keep LikC.holds (HKV.out.up (lT hH1 hH2))).lower LikC.holds (lT hH1 hH2);have e2:=EAt.one (V:=vCp) (n:=12) (ce:=qm) (x:=v.copy) (sub:=Cpy.likes) HSMz;have e3:=((HC4.out.drop (k+1)).keep LikC.holds (HKV.out.up (lT hH1 hH2))).lower LikC.holds (lT hH1 hH2);exact e1.app Be (by rw [List.length_take,List.length_take,HC1.out,Nat.min_eq_left (lE hlt),Nat.min_eq_left (Nat.mul_le_mul_right 12 (lE hlt))]) (e2.app Be (by rw [Be];rfl) e3)
      obtain ⟨d9,q9,e9,hsl⟩:=Hg HRz (by have h9:=hlg;omega) HEz (fun y hy=>by rcases Eh hy with h | h;(subst h;exact HZ3.out _ (by simp));exact HZC.out y h) (by have h9:=Dn Cpy.name x.copies v.copy;unfold maxLen;omega);have e8:some ⟨e3,0,none⟩=d9:=by injection e9
      subst e8;have HSL:=iH hsl;clear hsl e9;go_wp2_with (first | (refine lr Bw HLX ?_) | (refine Ad rfl 41 _ _ rfl rb 0 (fgA x.pack d1 x.berths.length q1 (some ⟨g2,0,none⟩) x.services.length q2 (some ⟨e3,0,none⟩) (Aq Cpy.name x.copies v.copy).length p3) rfl rfl HTR Ak (by simp [Value.oneCell']) wz HWZ ?_));exact bodyPost_ret (Bn rfl _ _ rb (fgL x.pack d1 x.berths.length q1 (some ⟨g2,0,none⟩) x.services.length q2 (some ⟨e3,0,none⟩) (Aq Cpy.name x.copies v.copy).length p3) _ rfl HRZ Tryz.underlying41 rfl Ak) rfl (.inr ⟨{ x with copies:=(Aq Cpy.name x.copies v.copy) },d1,q1,some ⟨g2,0,none⟩,q2,some ⟨e3,0,none⟩,p3,HEV,rfl,(HS1.out.keep BrtC.holds HKW (lT hHw hH1)),(HS2.out.keep SvcC.holds HKV hHw),HSL.out.keep CpyC.holds (Keeps.refl _ _) hHw,hBZ⟩)
     ·have HPE:=iH (Onq (nm:=Cpy.name) (a:=v.copy) HL HY hlt2 hne)
      have ht:=Fd hne;clear hne hlt2 HL HY
      go_region
      replace HEc:=iH HEc.out.drew;clear kxd ked knd ht;generalize wa.drew=wc at *;have HRW:Hid (∀ wy,EvW x v am cm al cl gx eb rb (.slice d1 x.berths.length q1) (.slice (some ⟨g2,0,none⟩) x.services.length q2) (.slice (some ⟨gl,0,none⟩) x.copies.length q3) w w4 wy→∀ ad,(some ⟨gl,k*12,none⟩:OA)=some ad→∀ j u,(cs.drop (k*12))[j]?=some u→wy.cell? (ad.add j)=some u):=fun wy hy ad e j u h=>by
       cases e
       rw [List.getElem?_drop] at h;have h9:=HCW.out wy hy _ rfl _ u h;rw [Addr.add_mid] at h9 ⊢;rw [show k*12+j=0+(k*12+j) by omega];exact h9
      go_upto_region 28 with fail;clear h0i h0k hck;refine Av (S:=fun wy=>Blk gx (ffA x d1 q1 (some ⟨g2,0,none⟩) q2 (some ⟨gl,0,none⟩) q3) 41 wy∧Blk eb (eeA v am cm al cl) 50 wy) 14 (by kernel_rfl) ⟨HEc.out.hx.drew,HEc.out.he.drew⟩ (fun hS=>?_);have HN:=iH HEc.out.drew;clear HEc;generalize wc.drew=wn at *;refine tv 1 ⟨some 157,_,_,_,_,none⟩ (.pointer (some ⟨gx,3,none⟩)) rfl (by rfl) ?_ hS ?_
      ·intro wy hy
       clear hy;go_simp
      simp only [pX];refine tv 2 ⟨some 158,_,_,_,_,none⟩ (.slice (some ⟨gl,0,none⟩) x.copies.length q3) rfl (by rfl) ?_ hS ?_
      ·intro wy hy
       have h0:wy.cell? ⟨gx,3,none⟩=some (.slice (some ⟨gl,0,none⟩) x.copies.length q3):=Blk.cell hy.1 rfl;clear hy;go_simp
      simp only [pX];refine tv 3 ⟨some 159,_,_,_,_,none⟩ (.int .i64 k) rfl (by rfl) ?_ hS ?_
      ·intro wy hy
       clear hy
       first | (go_simp;done) | (go_simp;omega)
      simp only [pX];refine tv 4 ⟨some 160,_,_,_,_,none⟩ (.slice (some ⟨gl,0,none⟩) k q3) rfl (by rfl) ?_ hS ?_
      ·intro wy hy
       clear hy
       (go_simp;try omega)
      simp only [pX];refine tv 6 ⟨some 162,_,_,_,_,none⟩ (.pointer (some ⟨eb,7,none⟩)) rfl (by rfl) ?_ hS ?_
      ·intro wy hy
       clear hy;go_simp
      simp only [pX];refine tu 7 ⟨some 163,_,_,_,_,none⟩ (.agg (ccA v.copy al cl)) rfl (yieldsIf_load_mid (by rfl) _ _ rfl eb (7) rfl (ccL v.copy al cl) _ (fun _ h=>Go.Proofs.YtihnjndnkgnmaaaGreat.rb h.2 (7) (ccL v.copy al cl)) Tryz.underlying48 rfl Bh) hS ?_;simp only [pX];refine tv 11 ⟨some 167,_,_,_,_,none⟩ (.slice (some ⟨gl,k*12,none⟩) (x.copies.length - k) (q3 - k)) rfl (by rfl) ?_ hS ?_
      ·intro wy hy
       clear hy
       first | (go_simp;done) | (go_simp;omega)
      simp only [pX];refine ru1 0 ⟨some 156,_,_,_,_,none⟩ rfl (fun KK hKK=>?_);go_simp;have hal:=(Below.refl _ wn).alloc nL (Obj.cells #[] 48);have HRw:Hid ((wn.alloc (Obj.cells #[] 48)).ownsRow wn.heap.size 48 12 (.slice (some ⟨wn.heap.size,0,none⟩) 0 0) 0 []):=World.ownsRow_made wn #[] 0 nL (zL) rfl;have hgn:gx<wn.heap.size:=HN.out.hx.lt;replace HN:=iH (HN.out.below hal);refine hKK.out _ _ ⟨HN.out.hx,HN.out.he⟩ (fun hS=>?_);clear hKK KK hal;generalize wn.heap.size=h0 at *;generalize wn.alloc (Obj.cells #[] 48)=wo at *;have HH0:Hid (h0≤wo.heap.size):=lE (HRw.out.lt h0 rfl).2;refine ru1 5 ⟨some 161,_,_,_,_,none⟩ rfl (fun KK hKK=>?_);rw [if_pos (by rfl)];refine Au (.tmp 156) (.tmp 160) 39 (by rfl) h0 48 i0 _ 12 160 Tryz.underlying39 HII hz0 hz1 hz2 rfl (by decide) _ 0 _ (by rfl) HRw (some ⟨gl,0,none⟩) k q3 (cs.take (k*12)) (by rfl) (fun h=>(by cases h)) (by rw [List.length_take,HC1.out];have h9:=Nat.mul_le_mul_right 12 (lE hlt);omega) (fun ad e j u hj=>HCW.out wo HN ad e j u (by have h9:=Ae hj;simp only [List.length_take] at h9;rwa [List.getElem?_take_of_lt (by omega)] at hj)) (fun u hu=>HC3.out u (List.mem_of_mem_take hu)) (by unfold maxLen;omega) (by omega) HH0 ?_;intro v' wp hown hgrow hnil hblk;have hv:v'≠.slice none 0 0:=(fun e=>by have h9:=(hnil.1 e).1;cases h9);rw [Nat.zero_add,List.nil_append] at hown;obtain ⟨e1,p1,rfl⟩:=Dj hown hv;have hrow:∀ r,Value.ownBlock _=some r→gx<r:=fun r e=>lL hgn (HRw.out.lt r e).1
      have HNo:=HN;replace HN:=iH (HN.out.grown hgrow hrow);have hRl:=HRw.out.lt;replace HRw:=iH hown;have HH1:=iH (lT HH0 hgrow.size);refine hKK.out _ _ ⟨HN.out.hx,HN.out.he⟩ (fun hS=>?_);clear hKK KK hown hgrow hnil hblk hv hrow HH0 HNo hRl;have HH0:=HH1;clear HH1;simp only [pX];refine ru1 8 ⟨some 164,_,_,_,_,none⟩ rfl (fun KK hKK=>?_);go_simp;refine (Gh v.copy al cl lo _ (NL.out.below LikC.holds HN.out.hb nL) hvl).mono ?_;rintro e w8 ⟨gm,qm,rfl,hsm,hgm1,hgm2,hb8⟩;have HSM:=iH hsm;have hwp:h0≤wp.heap.size:=HH0.out;have he1:=(HRw.out.lt e1 rfl).2;replace HN:=iH (HN.out.below hb8);replace HRw:=iH (Al HRw hb8);have HH1:=iH (lT HH0 hb8.size);refine hKK.out _ _ ⟨HN.out.hx,HN.out.he⟩ (fun hS=>?_);clear hKK KK hsm hb8 HH0;have HH0:=HH1;clear HH1;refine ru1 9 ⟨some 165,_,_,_,_,none⟩ rfl (fun KK hKK=>?_);go_simp;have hal:=(Below.refl _ w8).alloc nL (Obj.cells (ccA v.copy (some ⟨gm,0,none⟩) qm) 48);have NC:=iH (Blk.alloc w8 (ccA v.copy (some ⟨gm,0,none⟩) qm) 48);replace HN:=iH (HN.out.below hal);replace HRw:=iH (Al HRw hal);replace HSM:=qS LikC.holds HSM hal;have HH1:=iH (lT HH0 hal.size);have hn8:e1<w8.heap.size∧gm<w8.heap.size∧wp.heap.size≤gm:=⟨lL he1 (lT hgm1 (lE hgm2)),hgm2,hgm1⟩;refine hKK.out _ _ ⟨HN.out.hx,HN.out.he⟩ (fun hS=>?_);clear hKK KK hal HH0;have HH0:=HH1;clear HH1;generalize w8.alloc (Obj.cells (ccA v.copy (some ⟨gm,0,none⟩) qm) 48)=w9 at *;generalize w8.heap.size=gn at *;refine ru1 10 ⟨some 166,_,_,_,_,none⟩ rfl (fun KK hKK=>?_);rw [if_pos (by rfl)];refine Au (.tmp 161) (.tmp 165) 39 (by rfl) h0 48 i0 _ 12 160 Tryz.underlying39 HII hz0 hz1 hz2 rfl (by decide) _ k _ (by rfl) HRw (some ⟨gn,0,none⟩) 1 1 (vCp v.copy (.slice (some ⟨gm,0,none⟩) v.copy.likes.length qm)) (by rfl) (fun h=>(by cases h)) rfl (fun ad e j u hj=>by cases e;rw [Addr.add_mid];exact NC.out.rangeA j u hj) (Ib v.copy _ _ qm) (by unfold maxLen;omega) (by omega) HH0 ?_;intro v' wr hown hgrow hnil hblk;have hv:v'≠.slice none 0 0:=(fun e=>by have h9:=(hnil.1 e).1;cases h9);skip;obtain ⟨e2,p2,rfl⟩:=Dj hown hv;have hrow:∀ r,Value.ownBlock _=some r→gx<r:=fun r e=>lL hgn (HRw.out.lt r e).1
      have HNo:=HN;replace HN:=iH (HN.out.grown hgrow hrow);have hE2:e2=e1∨e2=w9.heap.size:=by
       rcases hblk with h9 | h9
       ·exact .inl (Option.some.inj h9)
       ·exact .inr (Option.some.inj h9)
      have hg9:gm<w9.heap.size:=lL hn8.2.1 (lE NC.out.lt);replace HSM:=iH (Ai LikC.flat HSM hgrow (fun b o e hn e2=>by cases e;have e3:gm=e1:=Option.some.inj e2;omega));have hme:gm≠e2:=by omega
      have hRl:=HRw.out.lt;replace HRw:=iH hown;have HH1:=iH (lT HH0 hgrow.size);refine hKK.out _ _ ⟨HN.out.hx,HN.out.he⟩ (fun hS=>?_);clear hKK KK hown hgrow hnil hblk hv hrow HH0 HNo hRl;have HH0:=HH1;clear HH1;simp only [pX];refine ru1 12 ⟨some 168,_,_,_,_,none⟩ rfl (fun KK hKK=>?_);rw [if_pos (by rfl)];refine Au (.tmp 166) (.tmp 167) 39 (by rfl) h0 48 i0 _ 12 160 Tryz.underlying39 HII hz0 hz1 hz2 rfl (by decide) _ (k+1) _ (by rfl) HRw (some ⟨gl,k*12,none⟩) (x.copies.length - k) (q3 - k) (cs.drop (k*12)) (by rfl) (fun h=>(by cases h)) (by first | (rw [List.length_drop,HC1.out,← Nat.sub_mul];done) | (rw [List.length_drop,HC1.out,← Nat.sub_mul];congr 1;done) | (rw [List.length_drop,HC1.out,← Nat.sub_mul];congr 1;omega)) (fun ad e j u hj=>HRW.out wr HN ad e j u hj) (fun u hu=>HC3.out u (List.mem_of_mem_drop hu)) (by unfold maxLen;omega) (by omega) HH0 ?_;intro v' ws hown hgrow hnil hblk;have hv:v'≠.slice none 0 0:=(fun e=>by have h9:=(hnil.1 e).1;cases h9);skip;obtain ⟨e3,p3,rfl⟩:=Dj hown hv;have hrow:∀ r,Value.ownBlock _=some r→gx<r:=fun r e=>lL hgn (HRw.out.lt r e).1
      have HNo:=HN;replace HN:=iH (HN.out.grown hgrow hrow);replace HSM:=iH (Ai LikC.flat HSM hgrow (fun b o e hn e2=>by cases e;exact hme (Option.some.inj e2)));have hRl:=HRw.out.lt;replace HRw:=iH hown;have HH1:=iH (lT HH0 hgrow.size);refine hKK.out _ _ ⟨HN.out.hx,HN.out.he⟩ (fun hS=>?_);clear hKK KK hown hgrow hnil hblk hv hrow HH0 HNo hRl;have HH0:=HH1;clear HH1;simp only [pX];refine tv 13 ⟨some 169,_,_,_,_,none⟩ (.pointer (some ⟨gx,3,none⟩)) rfl (by rfl) ?_ hS ?_
      ·intro wy hy
       clear hy;go_simp
      simp only [pX];have kz:=HN.out.hx.cell (o:=3) rfl;have fz:=HN.out.hx.frozen 3;refine Bb (rs:=[14]) (by kernel_rfl) (by simp) (AllReadyU.last (o:=⟨none,_,_,_,_,none⟩) rfl (fun KK hKK=>?_));go_simp;clear kz fz;have HN9:=iH (HN.out.set3 (.slice (some ⟨e3,0,none⟩) (k+1+(x.copies.length - k)) p3));have HR9:=iH (Cb (i:=3) HRw hgn (.slice (some ⟨e3,0,none⟩) (k+1+(x.copies.length - k)) p3));have HSM9:=iH (Ai LikC.flat HSM (Bd ws ⟨gx,3,none⟩ (.slice (some ⟨e3,0,none⟩) (k+1+(x.copies.length - k)) p3)) (fun b o e hn e2=>by cases e;have e3:gm=gx:=Option.some.inj e2;omega));refine hKK.out _ _ (Bl (by kernel_rfl) ?_ _);clear hKK KK hS HN HRw HSM NC;generalize ws.setCell ⟨gx,3,none⟩ (.slice (some ⟨e3,0,none⟩) (k+1+(x.copies.length - k)) p3)=wt at *;have hpl:k+1+(x.copies.length - k)=(Aq Cpy.name x.copies v.copy).length:=by
       rw [HPE.out,List.length_append,List.length_take,List.length_cons,List.length_drop];omega
      rw [hpl] at HN9 HR9 ⊢;go_upto_region 39 with fail;have HTR:=iH HN9.out.hr.there;have HLX:=iH HN9.out.hx.rangeA;obtain ⟨wz,HWZ⟩:∃ w',Hid (w'=wt.setCells rb 0 (fgL x.pack d1 x.berths.length q1 (some ⟨g2,0,none⟩) x.services.length q2 (some ⟨e3,0,none⟩) (Aq Cpy.name x.copies v.copy).length p3)):=⟨_,rfl⟩;have HRZ:Hid (wz.rangeAt rb 0 (fgL x.pack d1 x.berths.length q1 (some ⟨g2,0,none⟩) x.services.length q2 (some ⟨e3,0,none⟩) (Aq Cpy.name x.copies v.copy).length p3)):=by
       show World.rangeAt _ _ _ _
       rw [HWZ.out];exact World.rangeAt_setCells_same _ _ _ _ HTR
      have hBZ:Below w.heap.size w wz:=by
       have k1:=HN9.out.i1;have k2:=HN9.out.i2;rw [HWZ.out];exact Ac (by omega) _ _ _ HN9.out.hb
      have hRB:rb<w3.heap.size:=HRB.out;have HKV:Hid (Keeps w3.heap.size w4 wz):=by
       show Keeps _ _ _
       rw [HWZ.out];have h9:Keeps w3.heap.size w4 wt:=Keeps.of_below HN9.out.h4 (Nat.le_of_eq HGX) _;exact h9.trans (Keeps.setCells hRB _ _ _)
      have HKW:Hid (Keeps H wB wz):=HKB.out.trans (HKV.out.up hH1);have HRz:Hid (wz.ownsRow h0 48 12 (.slice (some ⟨e3,0,none⟩) (Aq Cpy.name x.copies v.copy).length p3) (Aq Cpy.name x.copies v.copy).length (cs.take (k*12)++vCp v.copy (.slice (some ⟨gm,0,none⟩) v.copy.likes.length qm)++cs.drop (k*12))):=by
       show World.ownsRow _ _ _ _ _ _ _
       rw [HWZ.out];exact Doq HR9 (by have h9:=HN9.out.i3;omega) _
      have HSMz:Hid (SliceC LikC 2 w3.heap.size wz (some ⟨gm,0,none⟩) v.copy.likes):=by
       show SliceC _ _ _ _ _ _
       rw [HWZ.out];exact (Ai LikC.flat HSM9 (Ao _ _ _) (fun b o e hn e2=>by cases e;have e3:gm=rb:=Option.some.inj e2;have h9:=HN9.out.i3;omega)).keep LikC.holds (Keeps.refl _ _) (by have h9:=hlg;omega)
      have HEz:Hid (EAt vCp Cpy.likes LikC 2 12 w3.heap.size wz (cs.take (k*12)++vCp v.copy (.slice (some ⟨gm,0,none⟩) v.copy.likes.length qm)++cs.drop (k*12)) (Aq Cpy.name x.copies v.copy)):=by
       show EAt _ _ _ _ _ _ _ _ _
       rw [HPE.out,List.append_assoc];have e1:=((HC4.out.take Be k).keep LikC.holds (HKV.out.up (lT hH1 hH2))).lower LikC.holds (lT hH1 hH2);have e2:=EAt.one (V:=vCp) (n:=12) (ce:=qm) (x:=v.copy) (sub:=Cpy.likes) HSMz;have e3:=((HC4.out.drop k).keep LikC.holds (HKV.out.up (lT hH1 hH2))).lower LikC.holds (lT hH1 hH2);exact e1.app Be (by rw [List.length_take,List.length_take,HC1.out,Nat.min_eq_left (lE hlt),Nat.min_eq_left (Nat.mul_le_mul_right 12 (lE hlt))]) (e2.app Be (by rw [Be];rfl) e3)
      obtain ⟨d9,q9,e9,hsl⟩:=Hg HRz (by have h9:=hlg;omega) HEz (fun y hy=>by rcases Eh hy with h | h;(subst h;exact HZ3.out _ (by simp));exact HZC.out y h) (by have h9:=Dn Cpy.name x.copies v.copy;unfold maxLen;omega);have e8:some ⟨e3,0,none⟩=d9:=by injection e9
      subst e8;have HSL:=iH hsl;clear hsl e9;go_wp2_with (first | (refine lr Bw HLX ?_) | (refine Ad rfl 41 _ _ rfl rb 0 (fgA x.pack d1 x.berths.length q1 (some ⟨g2,0,none⟩) x.services.length q2 (some ⟨e3,0,none⟩) (Aq Cpy.name x.copies v.copy).length p3) rfl rfl HTR Ak (by simp [Value.oneCell']) wz HWZ ?_));exact bodyPost_ret (Bn rfl _ _ rb (fgL x.pack d1 x.berths.length q1 (some ⟨g2,0,none⟩) x.services.length q2 (some ⟨e3,0,none⟩) (Aq Cpy.name x.copies v.copy).length p3) _ rfl HRZ Tryz.underlying41 rfl Ak) rfl (.inr ⟨{ x with copies:=(Aq Cpy.name x.copies v.copy) },d1,q1,some ⟨g2,0,none⟩,q2,some ⟨e3,0,none⟩,p3,HEV,rfl,(HS1.out.keep BrtC.holds HKW (lT hHw hH1)),(HS2.out.keep SvcC.holds HKV hHw),HSL.out.keep CpyC.holds (Keeps.refl _ _) hHw,hBZ⟩)
   ·skip
    have hke:k=x.copies.length:=by omega
    subst hke;have HPE:Hid ((Aq Cpy.name x.copies v.copy)=x.copies.take x.copies.length++v.copy::x.copies.drop x.copies.length):=by
     show _=_
     rw [Pg (nm:=Cpy.name) (a:=v.copy) HL.out,List.drop_length]
    clear HL;have ik:¬ (x.copies.length:Int)<(x.copies.length:Int):=by omega
    go_upto_region 23 with fail
    go_region
    have HEc:=iH HEr.out.drew;have kxd:wr.drew.cell? ⟨gx,3,none⟩=some (.slice (some ⟨gl,0,none⟩) x.copies.length q3):=kx;clear kx ke HEr ik;generalize wr.drew=wa at *;go_upto_region 26 with fail;obtain ⟨ro,hrb⟩:∃ ro,(if q3=x.copies.length then some (⟨gl,0,none⟩:Addr) else some ⟨gl,x.copies.length*12,none⟩)=some ro:=by split <;> exact ⟨_,rfl⟩
    rw [hrb];clear hrb
    go_region
    replace HEc:=iH HEc.out.drew;clear kxd;generalize wa.drew=wc at *;have HRW:Hid (∀ wy,EvW x v am cm al cl gx eb rb (.slice d1 x.berths.length q1) (.slice (some ⟨g2,0,none⟩) x.services.length q2) (.slice (some ⟨gl,0,none⟩) x.copies.length q3) w w4 wy→∀ ad,(some ro:OA)=some ad→∀ j u,(cs.drop (x.copies.length*12))[j]?=some u→wy.cell? (ad.add j)=some u):=fun wy hy ad e j u h=>by
     have h8:=Ae h;rw [List.length_drop,HC1.out] at h8;omega
    obtain ⟨nr,hnr⟩:∃ nr:Nat,nr≤0:=⟨0,Nat.le_refl _⟩;go_upto_region 28 with fail;refine Av (S:=fun wy=>Blk gx (ffA x d1 q1 (some ⟨g2,0,none⟩) q2 (some ⟨gl,0,none⟩) q3) 41 wy∧Blk eb (eeA v am cm al cl) 50 wy) 14 (by kernel_rfl) ⟨HEc.out.hx.drew,HEc.out.he.drew⟩ (fun hS=>?_);have HN:=iH HEc.out.drew;clear HEc;generalize wc.drew=wn at *;refine tv 1 ⟨some 157,_,_,_,_,none⟩ (.pointer (some ⟨gx,3,none⟩)) rfl (by rfl) ?_ hS ?_
    ·intro wy hy
     clear hy;go_simp
    simp only [pX];refine tv 2 ⟨some 158,_,_,_,_,none⟩ (.slice (some ⟨gl,0,none⟩) x.copies.length q3) rfl (by rfl) ?_ hS ?_
    ·intro wy hy
     have h0:wy.cell? ⟨gx,3,none⟩=some (.slice (some ⟨gl,0,none⟩) x.copies.length q3):=Blk.cell hy.1 rfl;clear hy;go_simp
    simp only [pX];refine tv 3 ⟨some 159,_,_,_,_,none⟩ (.int .i64 x.copies.length) rfl (by rfl) ?_ hS ?_
    ·intro wy hy
     clear hy
     first | (go_simp;done) | (go_simp;omega)
    simp only [pX];refine tv 4 ⟨some 160,_,_,_,_,none⟩ (.slice (some ⟨gl,0,none⟩) x.copies.length q3) rfl (by rfl) ?_ hS ?_
    ·intro wy hy
     clear hy
     (go_simp;try omega)
    simp only [pX];refine tv 6 ⟨some 162,_,_,_,_,none⟩ (.pointer (some ⟨eb,7,none⟩)) rfl (by rfl) ?_ hS ?_
    ·intro wy hy
     clear hy;go_simp
    simp only [pX];refine tu 7 ⟨some 163,_,_,_,_,none⟩ (.agg (ccA v.copy al cl)) rfl (yieldsIf_load_mid (by rfl) _ _ rfl eb (7) rfl (ccL v.copy al cl) _ (fun _ h=>Go.Proofs.YtihnjndnkgnmaaaGreat.rb h.2 (7) (ccL v.copy al cl)) Tryz.underlying48 rfl Bh) hS ?_;simp only [pX];refine tv 11 ⟨some 167,_,_,_,_,none⟩ (.slice (some ro) nr (q3 - x.copies.length)) rfl (by rfl) ?_ hS ?_
    ·intro wy hy
     clear hy
     first | (go_simp;done) | (go_simp;omega)
    simp only [pX];refine ru1 0 ⟨some 156,_,_,_,_,none⟩ rfl (fun KK hKK=>?_);go_simp;have hal:=(Below.refl _ wn).alloc nL (Obj.cells #[] 48);have HRw:Hid ((wn.alloc (Obj.cells #[] 48)).ownsRow wn.heap.size 48 12 (.slice (some ⟨wn.heap.size,0,none⟩) 0 0) 0 []):=World.ownsRow_made wn #[] 0 nL (zL) rfl;have hgn:gx<wn.heap.size:=HN.out.hx.lt;replace HN:=iH (HN.out.below hal);refine hKK.out _ _ ⟨HN.out.hx,HN.out.he⟩ (fun hS=>?_);clear hKK KK hal;generalize wn.heap.size=h0 at *;generalize wn.alloc (Obj.cells #[] 48)=wo at *;have HH0:Hid (h0≤wo.heap.size):=lE (HRw.out.lt h0 rfl).2;refine ru1 5 ⟨some 161,_,_,_,_,none⟩ rfl (fun KK hKK=>?_);rw [if_pos (by rfl)];refine Au (.tmp 156) (.tmp 160) 39 (by rfl) h0 48 i0 _ 12 160 Tryz.underlying39 HII hz0 hz1 hz2 rfl (by decide) _ 0 _ (by rfl) HRw (some ⟨gl,0,none⟩) x.copies.length q3 (cs.take (x.copies.length*12)) (by rfl) (fun h=>(by cases h)) (by rw [List.length_take,HC1.out];have h9:=Nat.mul_le_mul_right 12 (Nat.le_refl x.copies.length);omega) (fun ad e j u hj=>HCW.out wo HN ad e j u (by have h9:=Ae hj;simp only [List.length_take] at h9;rwa [List.getElem?_take_of_lt (by omega)] at hj)) (fun u hu=>HC3.out u (List.mem_of_mem_take hu)) (by unfold maxLen;omega) (by omega) HH0 ?_;intro v' wp hown hgrow hnil hblk;have hv:v'≠.slice none 0 0:=(fun e=>by have h9:=(hnil.1 e).1;cases h9);rw [Nat.zero_add,List.nil_append] at hown;obtain ⟨e1,p1,rfl⟩:=Dj hown hv;have hrow:∀ r,Value.ownBlock _=some r→gx<r:=fun r e=>lL hgn (HRw.out.lt r e).1
    have HNo:=HN;replace HN:=iH (HN.out.grown hgrow hrow);have hRl:=HRw.out.lt;replace HRw:=iH hown;have HH1:=iH (lT HH0 hgrow.size);refine hKK.out _ _ ⟨HN.out.hx,HN.out.he⟩ (fun hS=>?_);clear hKK KK hown hgrow hnil hblk hv hrow HH0 HNo hRl;have HH0:=HH1;clear HH1;simp only [pX];refine ru1 8 ⟨some 164,_,_,_,_,none⟩ rfl (fun KK hKK=>?_);go_simp;refine (Gh v.copy al cl lo _ (NL.out.below LikC.holds HN.out.hb nL) hvl).mono ?_;rintro e w8 ⟨gm,qm,rfl,hsm,hgm1,hgm2,hb8⟩;have HSM:=iH hsm;have hwp:h0≤wp.heap.size:=HH0.out;have he1:=(HRw.out.lt e1 rfl).2;replace HN:=iH (HN.out.below hb8);replace HRw:=iH (Al HRw hb8);have HH1:=iH (lT HH0 hb8.size);refine hKK.out _ _ ⟨HN.out.hx,HN.out.he⟩ (fun hS=>?_);clear hKK KK hsm hb8 HH0;have HH0:=HH1;clear HH1;refine ru1 9 ⟨some 165,_,_,_,_,none⟩ rfl (fun KK hKK=>?_);go_simp;have hal:=(Below.refl _ w8).alloc nL (Obj.cells (ccA v.copy (some ⟨gm,0,none⟩) qm) 48);have NC:=iH (Blk.alloc w8 (ccA v.copy (some ⟨gm,0,none⟩) qm) 48);replace HN:=iH (HN.out.below hal);replace HRw:=iH (Al HRw hal);replace HSM:=qS LikC.holds HSM hal;have HH1:=iH (lT HH0 hal.size);have hn8:e1<w8.heap.size∧gm<w8.heap.size∧wp.heap.size≤gm:=⟨lL he1 (lT hgm1 (lE hgm2)),hgm2,hgm1⟩;refine hKK.out _ _ ⟨HN.out.hx,HN.out.he⟩ (fun hS=>?_);clear hKK KK hal HH0;have HH0:=HH1;clear HH1;generalize w8.alloc (Obj.cells (ccA v.copy (some ⟨gm,0,none⟩) qm) 48)=w9 at *;generalize w8.heap.size=gn at *;refine ru1 10 ⟨some 166,_,_,_,_,none⟩ rfl (fun KK hKK=>?_);rw [if_pos (by rfl)];refine Au (.tmp 161) (.tmp 165) 39 (by rfl) h0 48 i0 _ 12 160 Tryz.underlying39 HII hz0 hz1 hz2 rfl (by decide) _ x.copies.length _ (by rfl) HRw (some ⟨gn,0,none⟩) 1 1 (vCp v.copy (.slice (some ⟨gm,0,none⟩) v.copy.likes.length qm)) (by rfl) (fun h=>(by cases h)) rfl (fun ad e j u hj=>by cases e;rw [Addr.add_mid];exact NC.out.rangeA j u hj) (Ib v.copy _ _ qm) (by unfold maxLen;omega) (by omega) HH0 ?_;intro v' wr hown hgrow hnil hblk;have hv:v'≠.slice none 0 0:=(fun e=>by have h9:=(hnil.1 e).1;cases h9);skip;obtain ⟨e2,p2,rfl⟩:=Dj hown hv;have hrow:∀ r,Value.ownBlock _=some r→gx<r:=fun r e=>lL hgn (HRw.out.lt r e).1
    have HNo:=HN;replace HN:=iH (HN.out.grown hgrow hrow);have hE2:e2=e1∨e2=w9.heap.size:=by
     rcases hblk with h9 | h9
     ·exact .inl (Option.some.inj h9)
     ·exact .inr (Option.some.inj h9)
    have hg9:gm<w9.heap.size:=lL hn8.2.1 (lE NC.out.lt);replace HSM:=iH (Ai LikC.flat HSM hgrow (fun b o e hn e2=>by cases e;have e3:gm=e1:=Option.some.inj e2;omega));have hme:gm≠e2:=by omega
    have hRl:=HRw.out.lt;replace HRw:=iH hown;have HH1:=iH (lT HH0 hgrow.size);refine hKK.out _ _ ⟨HN.out.hx,HN.out.he⟩ (fun hS=>?_);clear hKK KK hown hgrow hnil hblk hv hrow HH0 HNo hRl;have HH0:=HH1;clear HH1;simp only [pX];refine ru1 12 ⟨some 168,_,_,_,_,none⟩ rfl (fun KK hKK=>?_);rw [if_pos (by rfl)];refine Au (.tmp 166) (.tmp 167) 39 (by rfl) h0 48 i0 _ 12 160 Tryz.underlying39 HII hz0 hz1 hz2 rfl (by decide) _ (x.copies.length+1) _ (by rfl) HRw (some ro) nr (q3 - x.copies.length) (cs.drop (x.copies.length*12)) (by rfl) (fun h=>(by cases h)) (by first | (rw [List.length_drop,HC1.out,← Nat.sub_mul];done) | (rw [List.length_drop,HC1.out,← Nat.sub_mul];congr 1;done) | (rw [List.length_drop,HC1.out,← Nat.sub_mul];congr 1;omega)) (fun ad e j u hj=>HRW.out wr HN ad e j u hj) (fun u hu=>HC3.out u (List.mem_of_mem_drop hu)) (by unfold maxLen;omega) (by omega) HH0 ?_;intro v' ws hown hgrow hnil hblk;have hv:v'≠.slice none 0 0:=(fun e=>by have h9:=(hnil.1 e).1;cases h9);skip;obtain ⟨e3,p3,rfl⟩:=Dj hown hv;have hrow:∀ r,Value.ownBlock _=some r→gx<r:=fun r e=>lL hgn (HRw.out.lt r e).1
    have HNo:=HN;replace HN:=iH (HN.out.grown hgrow hrow);replace HSM:=iH (Ai LikC.flat HSM hgrow (fun b o e hn e2=>by cases e;exact hme (Option.some.inj e2)));have hRl:=HRw.out.lt;replace HRw:=iH hown;have HH1:=iH (lT HH0 hgrow.size);refine hKK.out _ _ ⟨HN.out.hx,HN.out.he⟩ (fun hS=>?_);clear hKK KK hown hgrow hnil hblk hv hrow HH0 HNo hRl;have HH0:=HH1;clear HH1;simp only [pX];refine tv 13 ⟨some 169,_,_,_,_,none⟩ (.pointer (some ⟨gx,3,none⟩)) rfl (by rfl) ?_ hS ?_
    ·intro wy hy
     clear hy;go_simp
    simp only [pX];have kz:=HN.out.hx.cell (o:=3) rfl;have fz:=HN.out.hx.frozen 3;refine Bb (rs:=[14]) (by kernel_rfl) (by simp) (AllReadyU.last (o:=⟨none,_,_,_,_,none⟩) rfl (fun KK hKK=>?_));go_simp;clear kz fz;have HN9:=iH (HN.out.set3 (.slice (some ⟨e3,0,none⟩) (x.copies.length+1+nr) p3));have HR9:=iH (Cb (i:=3) HRw hgn (.slice (some ⟨e3,0,none⟩) (x.copies.length+1+nr) p3));have HSM9:=iH (Ai LikC.flat HSM (Bd ws ⟨gx,3,none⟩ (.slice (some ⟨e3,0,none⟩) (x.copies.length+1+nr) p3)) (fun b o e hn e2=>by cases e;have e3:gm=gx:=Option.some.inj e2;omega));refine hKK.out _ _ (Bl (by kernel_rfl) ?_ _);clear hKK KK hS HN HRw HSM NC;generalize ws.setCell ⟨gx,3,none⟩ (.slice (some ⟨e3,0,none⟩) (x.copies.length+1+nr) p3)=wt at *;have hpl:x.copies.length+1+nr=(Aq Cpy.name x.copies v.copy).length:=by
     rw [HPE.out,List.length_append,List.length_take,List.length_cons,List.length_drop];omega
    rw [hpl] at HN9 HR9 ⊢;go_upto_region 39 with fail;have HTR:=iH HN9.out.hr.there;have HLX:=iH HN9.out.hx.rangeA;obtain ⟨wz,HWZ⟩:∃ w',Hid (w'=wt.setCells rb 0 (fgL x.pack d1 x.berths.length q1 (some ⟨g2,0,none⟩) x.services.length q2 (some ⟨e3,0,none⟩) (Aq Cpy.name x.copies v.copy).length p3)):=⟨_,rfl⟩;have HRZ:Hid (wz.rangeAt rb 0 (fgL x.pack d1 x.berths.length q1 (some ⟨g2,0,none⟩) x.services.length q2 (some ⟨e3,0,none⟩) (Aq Cpy.name x.copies v.copy).length p3)):=by
     show World.rangeAt _ _ _ _
     rw [HWZ.out];exact World.rangeAt_setCells_same _ _ _ _ HTR
    have hBZ:Below w.heap.size w wz:=by
     have k1:=HN9.out.i1;have k2:=HN9.out.i2;rw [HWZ.out];exact Ac (by omega) _ _ _ HN9.out.hb
    have hRB:rb<w3.heap.size:=HRB.out;have HKV:Hid (Keeps w3.heap.size w4 wz):=by
     show Keeps _ _ _
     rw [HWZ.out];have h9:Keeps w3.heap.size w4 wt:=Keeps.of_below HN9.out.h4 (Nat.le_of_eq HGX) _;exact h9.trans (Keeps.setCells hRB _ _ _)
    have HKW:Hid (Keeps H wB wz):=HKB.out.trans (HKV.out.up hH1);have HRz:Hid (wz.ownsRow h0 48 12 (.slice (some ⟨e3,0,none⟩) (Aq Cpy.name x.copies v.copy).length p3) (Aq Cpy.name x.copies v.copy).length (cs.take (x.copies.length*12)++vCp v.copy (.slice (some ⟨gm,0,none⟩) v.copy.likes.length qm)++cs.drop (x.copies.length*12))):=by
     show World.ownsRow _ _ _ _ _ _ _
     rw [HWZ.out];exact Doq HR9 (by have h9:=HN9.out.i3;omega) _
    have HSMz:Hid (SliceC LikC 2 w3.heap.size wz (some ⟨gm,0,none⟩) v.copy.likes):=by
     show SliceC _ _ _ _ _ _
     rw [HWZ.out];exact (Ai LikC.flat HSM9 (Ao _ _ _) (fun b o e hn e2=>by cases e;have e3:gm=rb:=Option.some.inj e2;have h9:=HN9.out.i3;omega)).keep LikC.holds (Keeps.refl _ _) (by have h9:=hlg;omega)
    have HEz:Hid (EAt vCp Cpy.likes LikC 2 12 w3.heap.size wz (cs.take (x.copies.length*12)++vCp v.copy (.slice (some ⟨gm,0,none⟩) v.copy.likes.length qm)++cs.drop (x.copies.length*12)) (Aq Cpy.name x.copies v.copy)):=by
     show EAt _ _ _ _ _ _ _ _ _
     rw [HPE.out,List.append_assoc];have e1:=((HC4.out.take Be x.copies.length).keep LikC.holds (HKV.out.up (lT hH1 hH2))).lower LikC.holds (lT hH1 hH2);have e2:=EAt.one (V:=vCp) (n:=12) (ce:=qm) (x:=v.copy) (sub:=Cpy.likes) HSMz;have e3:=((HC4.out.drop x.copies.length).keep LikC.holds (HKV.out.up (lT hH1 hH2))).lower LikC.holds (lT hH1 hH2);exact e1.app Be (by rw [List.length_take,List.length_take,HC1.out,Nat.min_eq_left (Nat.le_refl x.copies.length),Nat.min_eq_left (Nat.mul_le_mul_right 12 (Nat.le_refl x.copies.length))]) (e2.app Be (by rw [Be];rfl) e3)
    obtain ⟨d9,q9,e9,hsl⟩:=Hg HRz (by have h9:=hlg;omega) HEz (fun y hy=>by rcases Eh hy with h | h;(subst h;exact HZ3.out _ (by simp));exact HZC.out y h) (by have h9:=Dn Cpy.name x.copies v.copy;unfold maxLen;omega);have e8:some ⟨e3,0,none⟩=d9:=by injection e9
    subst e8;have HSL:=iH hsl;clear hsl e9;go_wp2_with (first | (refine lr Bw HLX ?_) | (refine Ad rfl 41 _ _ rfl rb 0 (fgA x.pack d1 x.berths.length q1 (some ⟨g2,0,none⟩) x.services.length q2 (some ⟨e3,0,none⟩) (Aq Cpy.name x.copies v.copy).length p3) rfl rfl HTR Ak (by simp [Value.oneCell']) wz HWZ ?_));exact bodyPost_ret (Bn rfl _ _ rb (fgL x.pack d1 x.berths.length q1 (some ⟨g2,0,none⟩) x.services.length q2 (some ⟨e3,0,none⟩) (Aq Cpy.name x.copies v.copy).length p3) _ rfl HRZ Tryz.underlying41 rfl Ak) rfl (.inr ⟨{ x with copies:=(Aq Cpy.name x.copies v.copy) },d1,q1,some ⟨g2,0,none⟩,q2,some ⟨e3,0,none⟩,p3,HEV,rfl,(HS1.out.keep BrtC.holds HKW (lT hHw hH1)),(HS2.out.keep SvcC.holds HKV hHw),HSL.out.keep CpyC.holds (Keeps.refl _ _) hHw,hBZ⟩)
end Go.Proofs.YtihnjndnkgnmaaaGreat
