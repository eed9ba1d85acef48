import Derived.Test.YtjoeojhdkoidbaaGreatJ40
import Derived.Test.YtjoeojhdkoidbaaGreatSmg
import Derived.Test.YtjoeojhdkoidbaaGreatSp3
import Derived.Test.YtjoeojhdkoidbaaGreatL3s
set_option maxHeartbeats 8000000
set_option maxRecDepth 100000
namespace Go.Proofs.YtjoeojhdkoidbaaGreat
open Go.RowKit Go.WideMaps Go.Maps Tryz
def vG (x:Flt) (s:Stp) (w:World) (e:Ending) (w':World):Prop:=∃ (r:Flt) (t:Bool) (d1:OA) (q1:Nat) (d2:OA) (q2:Nat) (d3:OA) (q3:Nat),e=.returned (.tuple #[.agg (ffA r d1 q1 d2 q2 d3 q3),.bool t])∧DoRes x s r t∧SliceC BrtC 6 w.heap.size w' d1 r.berths∧SliceC SvcC 2 w.heap.size w' d2 r.services∧SliceC CpyC 12 w.heap.size w' d3 r.copies∧Below w.heap.size w w'
theorem fX (x:Flt) (s:Stp) (a1:OA) (c1 b2 o2 c2:Nat) (a3:OA) (c3:Nat) (ag:OA) (cg lo:Nat) (w:World) (n1:SliceC BrtC 6 lo w a1 x.berths) (n2:SliceC SvcC 2 lo w (some ⟨b2,o2,none⟩) x.services) (n3:SliceC CpyC 12 lo w a3 x.copies) (hg:SliceC StrC 1 lo w ag s.gone) (hgl:s.gone.length≤1048576) (hbz:s.berth.size≤maxLen) (l1:x.berths.length≤1048576) (l2:x.services.length≤1048576) (l3:x.copies.length≤1048576) (hmk:∀ y∈x.berths,y.marks.length≤1048576) (hlk:∀ y∈x.copies,y.likes.length≤1048576) :
  Calls prog 6 #[.agg (ffA x a1 c1 (some ⟨b2,o2,none⟩) c2 a3 c3),.agg (hhA s ag cg)] w fun e w'=>vG x s w e w':=by
 obtain ⟨w0,hw0,HX0,HP0,HZ0,HB0⟩:=alU w (ffA x a1 c1 (some ⟨b2,o2,none⟩) c2 a3 c3) (hhA s ag cg) FfA 36 40 36;have N1:=iH n1;have N2:=iH n2;have N3:=iH n3;have NG:=iH hg;have HE:=iH (nF x l3);clear n1 n2 n3 hg;go_enter func6,ntmps6;go_upto_region 1 with fail;rw [← hw0];clear hw0;have hs0:w.heap.size+2<w0.heap.size:=HZ0.out.lt;have HRX:=iH HX0.out.rangeA;have k0:=HP0.out.cell (o:=0) rfl;go_wp2_with (first | (refine qLr Kq HRX ?_));clear k0 HRX;refine (Ht x a1 c1 (some ⟨b2,o2,none⟩) c2 a3 c3 lo s.copy w0 (N3.out.below CpyC.holds HB0 nL) l3).mono ?_;rintro e w1 ⟨rfl,hb1⟩;have hs1:w0.heap.size≤w1.heap.size:=hb1.size;have HB1:=iH (HB0.out.trans (hb1.mono (by omega)));have HX1:=qBk HX0 hb1;have HP1:=qBk HP0 hb1;have HZ1:=qBk HZ0 hb1;clear hb1 HB0 HX0 HP0 HZ0;have HRX:=iH HX1.out.rangeA;have k0:=HP1.out.cell (o:=1) rfl;go_wp2_with (first | (refine qLr Kq HRX ?_));clear k0 HRX;refine (Ik x a1 c1 (some ⟨b2,o2,none⟩) c2 a3 c3 lo s.berth w1 (N1.out.below BrtC.holds HB1 nL) l1).mono ?_;rintro e w2 ⟨rfl,hb2⟩;have hs2:w1.heap.size≤w2.heap.size:=hb2.size;have HB2:=iH (HB1.out.trans (hb2.mono (by omega)));have HX2:=qBk HX1 hb2;have HP2:=qBk HP1 hb2;have HZ2:=qBk HZ1 hb2;clear hb2 HB1 HX1 HP1 HZ1;have HRX:=iH HX2.out.rangeA;go_wp2_with (first | (refine qLr Kq HRX ?_));clear HRX;refine (Vo x a1 c1 (some ⟨b2,o2,none⟩) c2 a3 c3 lo w2 (N1.out.below BrtC.holds HB2 nL) (N2.out.below SvcC.holds HB2 nL) (N3.out.below CpyC.holds HB2 nL) l1 l2 l3).mono ?_;rintro e w3 ⟨rfl,hb3⟩;have hs3:w2.heap.size≤w3.heap.size:=hb3.size;have HB3:=iH (HB2.out.trans (hb3.mono (by omega)));have HX3:=qBk HX2 hb3;have HP3:=qBk HP2 hb3;have HZ3:=qBk HZ2 hb3;clear hb3 HB2 HX2 HP2 HZ2
 cases hv:Qh x with
 | false =>
  have HNO:Hid (∀ ci bi y b,¬ Mr x s ci bi y b):=fun ci bi y b h=>by
   have h9:=h.1;rw [aS (HE.out.trans hv)] at h9;cases h9
  clear hv;obtain ⟨wf,HEf,HTZ,HRf,HBf⟩:=noW HZ3 HB3;go_upto_region 4 with fail;go_wp2_with (first | (refine Ag rfl 36 _ _ rfl (w.heap.size+2) 0 FfA rfl rfl HTZ Am (by simp [Value.oneCell']) wf HEf ?_));exact bodyPost_ret (Bi rfl _ _ (w.heap.size+2) FfL _ rfl HRf underlying36 rfl Am) rfl ⟨noF,false,none,0,none,0,none,0,rfl,DoRes.no HNO,SliceC.nil,SliceC.nil,SliceC.nil,HBf.out.1⟩
 | true =>
  have HV:Hid (Cf x=true):=HE.out.trans hv;clear hv;obtain ⟨k2,k3,_,hcN,hsp,_⟩:=Cg HV;obtain ⟨_,hbN,hbv,_⟩:=Br HV;have HSP:=iH hsp;have HCN:=iH hcN;have HBN:=iH hbN;have HBV:=iH hbv;clear hsp hcN hbN hbv
  cases hci:An (cpN x) s.copy x.copies.length with
  | none =>
   have HNO:Hid (∀ ci bi y b,¬ Mr x s ci bi y b):=fun ci bi y b h=>by
    have h9:=h.1;rw [aY hci] at h9;cases h9
   rw [gX hci];clear hci;obtain ⟨wf,HEf,HTZ,HRf,HBf⟩:=noW HZ3 HB3;go_upto_region 4 with fail;go_wp2_with (first | (refine Ag rfl 36 _ _ rfl (w.heap.size+2) 0 FfA rfl rfl HTZ Am (by simp [Value.oneCell']) wf HEf ?_));exact bodyPost_ret (Bi rfl _ _ (w.heap.size+2) FfL _ rfl HRf underlying36 rfl Am) rfl ⟨noF,false,none,0,none,0,none,0,rfl,DoRes.no HNO,SliceC.nil,SliceC.nil,SliceC.nil,HBf.out.1⟩
  | some ci =>
   obtain ⟨hix,y,hy,hyn⟩:=Jl HCN hci;clear hyn;rw [hix];have hil:=Ah hy;have HY:=iH hy;clear hix hy
   cases hbi:An (brN x) s.berth x.berths.length with
   | none =>
    have HNO:Hid (∀ ci bi y b,¬ Mr x s ci bi y b):=fun ci bi y b h=>by
     have h9:=h.1;rw [cD hbi] at h9;cases h9
    rw [rF hbi];clear hbi hci;obtain ⟨wf,HEf,HTZ,HRf,HBf⟩:=noW HZ3 HB3;go_upto_region 4 with fail;go_wp2_with (first | (refine Ag rfl 36 _ _ rfl (w.heap.size+2) 0 FfA rfl rfl HTZ Am (by simp [Value.oneCell']) wf HEf ?_));exact bodyPost_ret (Bi rfl _ _ (w.heap.size+2) FfL _ rfl HRf underlying36 rfl Am) rfl ⟨noF,false,none,0,none,0,none,0,rfl,DoRes.no HNO,SliceC.nil,SliceC.nil,SliceC.nil,HBf.out.1⟩
   | some bi =>
    obtain ⟨hjx,b,hb,hbn⟩:=Vv HBN hbi;clear hbn;rw [hjx];have hbl:=Ah hb;have HBB:=iH hb;clear hjx hb;have HSC:Hid (Ig x s.copy s.berth=some (ci,bi)):=aP HV hci hbi;clear hci hbi;obtain ⟨b3,o3,rfl,hlo3,hb3w,hcc⟩:=N3.out.at HY;obtain ⟨a7,c7,hrc,s7⟩:=iQ hcc;obtain ⟨b1,o1,rfl,_,hb1w,hbc⟩:=N1.out.at HBB;obtain ⟨am,cm,hrb,sm⟩:=Xp hbc;have HRC:=iH hrc;have HRB:=iH hrb;have HSM:=iH sm;clear hcc hrc s7 hbc hrb sm;have kat:w3.cell? ⟨b3,o3+ci*12+11,none⟩=some (.string y.at_):=(HB3.out.cell (p:=⟨b3,o3+ci*12+11,none⟩) hb3w).trans (HRC 11 _ rfl);have kf3:=HX3.out.cell (o:=3) rfl;by_cases hat:y.at_=⟨#[]⟩
    case neg =>
     have HNO:Hid (∀ ci bi y b,¬ Mr x s ci bi y b):=fun ci2 bi2 y2 b2 h=>by
      have e9:=HSC.out.symm.trans h.1;cases e9
      have e8:=HY.out.symm.trans h.2.1;cases e8
      exact hat h.2.2.2.1
     have hte:=Ay hat;have hte2:y.at_.toList.isEmpty=false:=by
      try unfold ffA hhA
      cases h:y.at_.toList with
      | nil=>exact absurd h hte
      | cons a l=>rfl
     clear hat;obtain ⟨wf,HEf,HTZ,HRf,HBf⟩:=noW HZ3 HB3;go_upto_region 4 with fail;go_wp2_with (first | (refine Ag rfl 36 _ _ rfl (w.heap.size+2) 0 FfA rfl rfl HTZ Am (by simp [Value.oneCell']) wf HEf ?_));exact bodyPost_ret (Bi rfl _ _ (w.heap.size+2) FfL _ rfl HRf underlying36 rfl Am) rfl ⟨noF,false,none,0,none,0,none,0,rfl,DoRes.no HNO,SliceC.nil,SliceC.nil,SliceC.nil,HBf.out.1⟩
    have hte:=Bf hat;have hte2:y.at_.toList.isEmpty=true:=by rw [hte];rfl
    have HAT:=iH hat;clear hat;have kg:=HP3.out.cell (o:=2) rfl;have kf0:=HX3.out.cell (o:=0) rfl;have kf1:=HX3.out.cell (o:=1) rfl;have kf2:=HX3.out.cell (o:=2) rfl;have hd1:decide ((ci:Int)<0)=false:=by simp
    have hd2:decide ((bi:Int)<0)=false:=by simp
    go_wp2_with fail;clear kat kf3 hte hte2 kg kf0 kf1 kf2;refine (aW x (some ⟨b1,o1,none⟩) c1 (some ⟨b2,o2,none⟩) c2 (some ⟨b3,o3,none⟩) c3 lo s.gone ag cg lo w3 (N2.out.below SvcC.holds HB3 nL) (N3.out.below CpyC.holds HB3 nL) (NG.out.below StrC.holds HB3 nL) hgl k2 k3 HSP).mono ?_;rintro e w4 ⟨⟨t,rfl,hmay⟩,hb4⟩;have hs4:w3.heap.size≤w4.heap.size:=hb4.size;have HB4:=iH (HB3.out.trans (hb4.mono (by omega)));have HX4:=qBk HX3 hb4;have HP4:=qBk HP3 hb4;have HZ4:=qBk HZ3 hb4;clear hb4 HB3 HX3 HP3 HZ3
    cases t with
    | false =>
     have HNO:Hid (∀ ci bi y b,¬ Mr x s ci bi y b):=fun ci2 bi2 y2 b2 h=>absurd (hmay.2 h.2.2.2.2.1) (by decide)
     clear hmay;obtain ⟨wf,HEf,HTZ,HRf,HBf⟩:=noW HZ4 HB4;go_upto_region 4 with fail;go_wp2_with (first | (refine Ag rfl 36 _ _ rfl (w.heap.size+2) 0 FfA rfl rfl HTZ Am (by simp [Value.oneCell']) wf HEf ?_));exact bodyPost_ret (Bi rfl _ _ (w.heap.size+2) FfL _ rfl HRf underlying36 rfl Am) rfl ⟨noF,false,none,0,none,0,none,0,rfl,DoRes.no HNO,SliceC.nil,SliceC.nil,SliceC.nil,HBf.out.1⟩
    | true =>
     have HMAY:Hid (May x s.gone):=hmay.1 rfl;clear hmay;have HIX:Hid (∀ (k:Nat) g,s.gone[k]?=some g→∃ t:Nat,Fy x.copies g=(t:Int)∧t<x.copies.length):=by
      intro k g hk;obtain ⟨h1,c,h2,_⟩:=HMAY.out.1.1 k g (Ah hk) hk;exact ⟨(Fy x.copies g).toNat,by omega,Ah h2⟩
     go_upto_region 6 with fail;go_loopw [8] (fun i wr=>∃ k:Nat,k≤s.gone.length∧i=.int .i64 k∧w4.heap.size≤wr.heap.size∧Hid (∀ q,q∈(Dl x s.gone).take k→∀ c,x.copies[q]?=some c→c.at_=s.berth)∧Hid (Blk w.heap.size (ffA x (some ⟨b1,o1,none⟩) c1 (some ⟨b2,o2,none⟩) c2 (some ⟨b3,o3,none⟩) c3) 36 wr)∧Hid (Blk (w.heap.size+1) (hhA s ag cg) 40 wr)∧Hid (Blk (w.heap.size+2) FfA 36 wr)∧Hid (Below w.heap.size w wr)) (fun i _=>s.gone.length - (intOf i).toNat)
     case atStart=>exact ⟨0,zL,rfl,Nat.le_refl _,(fun q hq=>by simp at hq),HX4,HP4,HZ4,HB4⟩
     case round =>
      clear HX4 HP4 HZ4 HB4;obtain ⟨k,hk,rfl,hsr,HST,HX5,HP5,HZ5,HB5⟩:=hrel;have kg:=HP5.out.cell (o:=2) rfl;by_cases hlt:k<s.gone.length
      case pos =>
       obtain ⟨g,hgk⟩:=gXe hlt;obtain ⟨t,ht,htl⟩:=HIX.out k g hgk;obtain ⟨c,hc⟩:=gXe htl;have hpk:(Dl x s.gone)[k]?=some t:=by
        unfold Dl;rw [List.getElem?_map,hgk,Option.map_some,ht];rfl
       obtain ⟨gb,go,rfl,_,hgb,hgc⟩:=(NG.out.below StrC.holds HB5 nL).at hgk;obtain ⟨r0,hgs⟩:=hgc;simp only [Nat.mul_one,Nat.add_zero] at r0;have HR0:=iH r0;clear r0 hgs hgk;have kc:wr.cell? ⟨b3,o3+t*12+11,none⟩=some (.string c.at_):=by
        obtain ⟨b9,o9,e9,_,_,hcc⟩:=(N3.out.below CpyC.holds HB5 nL).at hc;cases e9
        obtain ⟨a9,c9,q0,q1,q2,q3,q4,q5,q6,q7,q8,q9,q10,q11,_⟩:=hcc;exact q11
       have HKC:=iH kc;clear kc;go_upto_region 8 with fail;clear kg;refine wp_region_held_drew (S:=(fun wy=>Blk w.heap.size (ffA x (some ⟨b1,o1,none⟩) c1 (some ⟨b2,o2,none⟩) c2 (some ⟨b3,o3,none⟩) c3) 36 wy∧Blk (w.heap.size+1) (hhA s (some ⟨gb,go,none⟩) cg) 40 wy∧wy.cell? ⟨gb,go+k,none⟩=some (.string g)∧wy.cell? ⟨b3,o3+t*12+11,none⟩=some (.string c.at_))) (by kernel_rfl) ⟨HX5.out.drew,HP5.out.drew,HR0,HKC⟩ (fun hS=>?_);replace HX5:=iH HX5.out.drew;replace HP5:=iH HP5.out.drew;replace HZ5:=iH HZ5.out.drew;replace HB5:=iH HB5.out.drew;replace hsr:w4.heap.size≤wr.drew.heap.size:=hsr;replace hgb:gb<wr.drew.heap.size:=hgb;have hb3r:b3<wr.drew.heap.size:=by have:w.heap.size≤wr.drew.heap.size:=HB5.out.size;omega
       generalize wr.drew=wn at *;refine tz 0 53 (.pointer (some ⟨w.heap.size,3,none⟩)) rfl hS ?_;simp only [pX];refine ty 1 ⟨some 54,_,_,_,_,none⟩ (.slice (some ⟨b3,o3,none⟩) x.copies.length c3) rfl (by rfl) ?_ hS ?_
       ·intro wy hy
        have h0:=Blk.cell hy.1 (o:=3) rfl;clear hy;go_simp
       simp only [pX];refine tm 2 55 w.heap.size 0 (ffL x (some ⟨b1,o1,none⟩) c1 (some ⟨b2,o2,none⟩) c2 (some ⟨b3,o3,none⟩) c3) rfl (fun _ h=>h.1.rangeA) underlying36 Am hS ?_;simp only [pX];refine tz 3 56 (.pointer (some ⟨w.heap.size+1,2,none⟩)) rfl hS ?_;simp only [pX];refine ty 4 ⟨some 57,_,_,_,_,none⟩ (.slice (some ⟨gb,go,none⟩) s.gone.length cg) rfl (by rfl) ?_ hS ?_
       ·intro wy hy
        have h0:=Blk.cell hy.2.1 (o:=2) rfl;clear hy;go_simp
       simp only [pX];refine tz 5 58 (.int .i64 (k:Int)) rfl hS ?_;simp only [pX];refine ty 6 ⟨some 59,_,_,_,_,none⟩ (.pointer (some ⟨gb,go+k,none⟩)) rfl (by rfl) ?_ hS ?_
       ·intro wy hy
        clear hy
        first | (go_simp;done) | (go_simp;omega)
       simp only [pX];refine ty 7 ⟨some 60,_,_,_,_,none⟩ (.string g) rfl (by rfl) ?_ hS ?_
       ·intro wy hy
        have h0:=hy.2.2.1;clear hy;go_simp
       simp only [pX];refine tz 12 65 (.pointer (some ⟨w.heap.size+1,1,none⟩)) rfl hS ?_;simp only [pX];refine ty 13 ⟨some 66,_,_,_,_,none⟩ (.string s.berth) rfl (by rfl) ?_ hS ?_
       ·intro wy hy
        have h0:=Blk.cell hy.2.1 (o:=1) rfl;clear hy;go_simp
       simp only [pX];refine rd1 8 ⟨some 61,_,_,_,_,none⟩ rfl (fun KK hKK=>?_);go_simp;have hcl:=Ht x (some ⟨b1,o1,none⟩) c1 (some ⟨b2,o2,none⟩) c2 (some ⟨b3,o3,none⟩) c3 lo g wn (N3.out.below CpyC.holds HB5 nL) l3;rw [ht] at hcl;refine hcl.mono ?_;rintro e w5 ⟨rfl,hb5⟩;have hs5:wn.heap.size≤w5.heap.size:=hb5.size;replace HB5:=qTH HB5 hb5;replace HX5:=qBk HX5 hb5;replace HP5:=qBk HP5 hb5;replace HZ5:=qBk HZ5 hb5;refine hKK.out _ _ ⟨HX5,HP5,(hb5.cell (p:=⟨gb,go+k,none⟩) hgb).trans hS.2.2.1,(hb5.cell (p:=⟨b3,o3+t*12+11,none⟩) hb3r).trans hS.2.2.2⟩ (fun hS=>?_);clear hKK KK hb5 hcl;refine ty 9 ⟨some 62,_,_,_,_,none⟩ (.pointer (some ⟨b3,o3+t*12,none⟩)) rfl (by rfl) ?_ hS ?_
       ·intro wy hy
        clear hy
        first | (go_simp;done) | (go_simp;omega)
       simp only [pX];refine tz 10 63 (.pointer (some ⟨b3,o3+t*12+11,none⟩)) rfl hS ?_;simp only [pX];refine ty 11 ⟨some 64,_,_,_,_,none⟩ (.string c.at_) rfl (by rfl) ?_ hS ?_
       ·intro wy hy
        have h0:=hy.2.2.2;clear hy;go_simp
       simp only [pX];refine tz 14 67 (.bool (!(c.at_.toList == s.berth.toList))) rfl hS ?_;simp only [pX];refine td ?_;clear hS;by_cases hcat:c.at_=s.berth
       case pos =>
        rw [show (!(c.at_.toList == s.berth.toList))=false by rw [Bo hcat];rfl];have HST2:Hid (∀ q,q∈(Dl x s.gone).take (k+1)→∀ c,x.copies[q]?=some c→c.at_=s.berth):=by
         intro q hq9 c9 hc9;rw [List.take_add_one,hpk] at hq9;rcases List.mem_append.1 hq9 with h9 | h9
         ·exact HST.out q h9 c9 hc9
         ·have:q=t:=by simpa using h9
          subst this;have h8:=hc.symm.trans hc9;cases h8
          exact hcat
        clear hcat HST;go_wp2_with fail;go_roundw
        case rel=>exact ⟨k+1,by omega,by go_num,by omega,HST2,HX5,HP5,HZ5,HB5⟩
        case measure=>simp [intOf];omega
       case neg =>
        rw [show (!(c.at_.toList == s.berth.toList))=true by rw [Bt hcat];rfl];have HNO:Hid (∀ ci bi y b,¬ Mr x s ci bi y b):=fun ci2 bi2 y2 b2 h=>hcat (h.2.2.2.2.2.1 t (List.mem_of_getElem? hpk) c hc)
        clear hcat;obtain ⟨wf,HEf,HTZ,HRf,HBf⟩:=noW HZ5 HB5;go_upto_region 9 with fail;go_wp2_with (first | (refine Ag rfl 36 _ _ rfl (w.heap.size+2) 0 FfA rfl rfl HTZ Am (by simp [Value.oneCell']) wf HEf ?_));exact bodyPost_ret (Bi rfl _ _ (w.heap.size+2) FfL _ rfl HRf underlying36 rfl Am) rfl ⟨noF,false,none,0,none,0,none,0,rfl,DoRes.no HNO,SliceC.nil,SliceC.nil,SliceC.nil,HBf.out.1⟩
      case neg =>
       have hke:k=s.gone.length:=by omega
       subst hke;have HST2:Hid (∀ q,q∈Dl x s.gone→∀ c,x.copies[q]?=some c→c.at_=s.berth):=by
        have h9:=HST.out;rw [show s.gone.length=(Dl x s.gone).length by unfold Dl;rw [List.length_map],List.take_length] at h9;exact h9
       clear HST;have HRX:=iH HX5.out.rangeA;go_wp2_with (first | (refine qLr Kq HRX ?_));clear HRX kg;refine (aH x (some ⟨b1,o1,none⟩) c1 b2 o2 c2 (some ⟨b3,o3,none⟩) c3 s.gone ag cg lo wr (N1.out.below BrtC.holds HB5 nL) (N2.out.below SvcC.holds HB5 nL) (N3.out.below CpyC.holds HB5 nL) (NG.out.below StrC.holds HB5 nL) hgl l1 l2 l3 hmk hlk (Ok HY) HIX).mono ?_;rintro e w6 ⟨e1,q1,g2,q2,G,q3,bs,rfl,hbs,⟨H,wB,hH,hbr,hwb,hkp⟩,hsv,hg2,hbG,hoc,hb6⟩;have hGl:G<w6.heap.size:=by
        obtain ⟨cs,h9,_⟩:=hoc;rw [Bp] at h9;exact (h9.lt G rfl).2
       have hs6:wr.heap.size≤w6.heap.size:=hb6.size;have HB6:=qTH HB5 hb6;have HX6:=qBk HX5 hb6;have HP6:=qBk HP5 hb6;have HZ6:=qBk HZ5 hb6;clear hb6 HB5 HX5 HP5 HZ5;have hza:=Blk.alloc w6 FfA 36;have HTS:=iH hza.there;obtain ⟨w7,HE7⟩:∃ w7,Hid (w7=(w6.alloc (Obj.cells FfA 36)).setCells w6.heap.size 0 (ffL x e1 q1 (some ⟨g2,0,none⟩) q2 (some ⟨G,0,none⟩) q3)):=⟨_,rfl⟩;have HV7:Hid (Blk w6.heap.size (ffA x e1 q1 (some ⟨g2,0,none⟩) q2 (some ⟨G,0,none⟩) q3) 36 w7):=by
        show Blk _ _ _ _
        rw [HE7.out];exact hza.setAll (ffA x e1 q1 (some ⟨g2,0,none⟩) q2 (some ⟨G,0,none⟩) q3) rfl
       have hb7:Below w6.heap.size w6 w7:=by
        rw [HE7.out];exact Ad nL _ _ _ ((Below.refl _ _).alloc nL _)
       clear hza;have hs7:w6.heap.size<w7.heap.size:=HV7.out.lt;have HB7:=qTH HB6 hb7;have HX7:=qBk HX6 hb7;have HP7:=qBk HP6 hb7;have HZ7:=qBk HZ6 hb7;have HBRB:=iH hbr;have HKP7:Hid (Keeps H wB w7):=hkp.trans (Keeps.of_below hb7 nL _);have HSV7:=iH (hsv.below SvcC.holds hb7 nL);have HOC7:Hid (Lm bs w7 (.slice (some ⟨G,0,none⟩) x.copies.length q3) (atP (Dl x s.gone) ⟨#[]⟩ x.copies)):=hoc.below LikC.holds hb7;clear hbr hkp hsv hoc hb7 HB6 HX6 HP6 HZ6;have HCP:Hid (ci∉Dl x s.gone):=by
        intro h9;have h8:=HST2.out ci h9 y HY;rw [HAT.out,← Wn HSC.out HBB.out] at h8;exact Kk (HBV bi b HBB).1 h8.symm
       have HV1:=iH (aA HV (Dl x s.gone));have hlw:lo≤wr.heap.size:=by omega
       have hlb:lo≤bs:=by omega
       have n37:SliceC CpyC 12 lo w7 (some ⟨G,0,none⟩) (woF x (Dl x s.gone)).copies:=by
        have h9:=HOC7.out;rw [show Value.slice (some ⟨G,0,none⟩) x.copies.length q3=.slice (some ⟨G,0,none⟩) (atP (Dl x s.gone) ⟨#[]⟩ x.copies).length q3 by rw [Bp]] at h9;exact (OwnN.copies h9 (Yy (Qg N3)) (by rw [Bp];unfold maxLen;omega)).keep CpyC.holds (Keeps.refl _ _) hlb
       have N37:=iH n37;clear n37;have HRC7:=iH (Ab HRC HB7 hb3w);have HRB7:=iH (Ab HRB HB7 hb1w);go_upto_region 11 with (first | (refine Ag rfl 36 _ _ rfl w6.heap.size 0 (ffA x e1 q1 (some ⟨g2,0,none⟩) q2 (some ⟨G,0,none⟩) q3) rfl rfl HTS Am (by simp [Value.oneCell']) w7 HE7 ?_));clear HTS HE7;refine wp_region_held_drew (S:=(fun wy=>Blk w6.heap.size (ffA x e1 q1 (some ⟨g2,0,none⟩) q2 (some ⟨G,0,none⟩) q3) 36 wy∧Blk w.heap.size (ffA x (some ⟨b1,o1,none⟩) c1 (some ⟨b2,o2,none⟩) c2 (some ⟨b3,o3,none⟩) c3) 36 wy∧wy.rangeAt b3 (o3+ci*12) (ccL y a7 c7)∧wy.rangeAt b1 (o1+bi*6) (bbL b am cm))) (by kernel_rfl) ⟨HV7.out.drew,HX7.out.drew,Bc HRC7,Bc HRB7⟩ (fun hS=>?_);replace HB7:=iH HB7.out.drew;replace HV7:=iH HV7.out.drew;replace HX7:=iH HX7.out.drew;replace HP7:=iH HP7.out.drew;replace HZ7:=iH HZ7.out.drew;replace HKP7:=iH (HKP7.out.trans (Keeps.of_below (Below.refl w7.heap.size w7).drew nL _));replace HSV7:=iH (HSV7.out.below SvcC.holds (Below.refl _ _).drew nL);replace HOC7:=iH (HOC7.out.below LikC.holds (Below.refl _ _).drew);replace N37:=iH (N37.out.below CpyC.holds (Below.refl _ _).drew nL);replace hs7:w6.heap.size<w7.drew.heap.size:=hs7;generalize w7.drew=w7 at *;refine tm 0 73 w6.heap.size 0 (ffL x e1 q1 (some ⟨g2,0,none⟩) q2 (some ⟨G,0,none⟩) q3) rfl (fun _ h=>h.1.rangeA) underlying36 Am hS ?_;simp only [pX];refine tz 1 74 (.pointer (some ⟨w.heap.size,3,none⟩)) rfl hS ?_;simp only [pX];refine ty 2 ⟨some 75,_,_,_,_,none⟩ (.slice (some ⟨b3,o3,none⟩) x.copies.length c3) rfl (by rfl) ?_ hS ?_
       ·intro wy hy
        have h0:=Blk.cell hy.2.1 (o:=3) rfl;clear hy;go_simp
       simp only [pX];refine tz 3 76 (.int .i64 (ci:Int)) rfl hS ?_;simp only [pX];refine ty 4 ⟨some 77,_,_,_,_,none⟩ (.pointer (some ⟨b3,o3+ci*12,none⟩)) rfl (by rfl) ?_ hS ?_
       ·intro wy hy
        clear hy
        first | (go_simp;done) | (go_simp;omega)
       simp only [pX];refine tm 5 78 b3 (o3+ci*12) (ccL y a7 c7) rfl (fun _ h=>h.2.2.1) underlying55 Be hS ?_;simp only [pX];refine tz 6 79 (.pointer (some ⟨w.heap.size,1,none⟩)) rfl hS ?_;simp only [pX];refine ty 7 ⟨some 80,_,_,_,_,none⟩ (.slice (some ⟨b1,o1,none⟩) x.berths.length c1) rfl (by rfl) ?_ hS ?_
       ·intro wy hy
        have h0:=Blk.cell hy.2.1 (o:=1) rfl;clear hy;go_simp
       simp only [pX];refine tz 8 81 (.int .i64 (bi:Int)) rfl hS ?_;simp only [pX];refine ty 9 ⟨some 82,_,_,_,_,none⟩ (.pointer (some ⟨b1,o1+bi*6,none⟩)) rfl (by rfl) ?_ hS ?_
       ·intro wy hy
        clear hy
        first | (go_simp;done) | (go_simp;omega)
       simp only [pX];refine tm 10 83 b1 (o1+bi*6) (bbL b am cm) rfl (fun _ h=>h.2.2.2) underlying60 Bd hS ?_;simp only [pX];refine rd1 11 ⟨some 84,_,_,_,_,none⟩ rfl (fun KK hKK=>?_);go_simp;have hcl:Calls prog 24 #[.agg (ffA x e1 q1 (some ⟨g2,0,none⟩) q2 (some ⟨G,0,none⟩) q3),.agg (ccA y a7 c7),.agg (bbA b am cm),.bool false] w7 (fun e w'=>e=.returned (.int .i64 (Du (woF x (Dl x s.gone)) ci y b false))∧Below w7.heap.size w7 w'):=by
        have h9:=dP lo ci bi (woF x (Dl x s.gone)) e1 q1 (some ⟨g2,0,none⟩) q2 (some ⟨G,0,none⟩) q3 y a7 c7 b am cm false w7 (HBRB.out.keep BrtC.holds HKP7 (by omega)) N37 (HSM.out.below StrC.holds HB7 nL) (Xl HY HCP) HBB HV1 (Qg N3 y (List.mem_of_getElem? HY)).2.2.1
        (try unfold ffA at h9);rw [show (woF x (Dl x s.gone)).copies.length=x.copies.length from Bp _ _ _] at h9
        exact h9
       obtain ⟨fr,hfr⟩:∃ fr,Du (woF x (Dl x s.gone)) ci y b false=fr:=⟨_,rfl⟩;rw [hfr] at hcl;have HFR:=iH hfr;clear hfr;have HCL:=iH hcl;clear hcl;refine HCL.out.mono ?_;rintro e w8 ⟨rfl,hb8⟩;have hs8:w7.heap.size≤w8.heap.size:=hb8.size;have HB8:=qTH HB7 hb8;have HX8:=qBk HX7 hb8;have HP8:=qBk HP7 hb8;have HZ8:=qBk HZ7 hb8;have HV8:=qBk HV7 hb8;have HKP8:Hid (Keeps H wB w8):=HKP7.out.trans (Keeps.of_below hb8 nL _);have HSV8:=qSl SvcC.holds HSV7 hb8;have HOC8:=iH (HOC7.out.below LikC.holds hb8);refine hKK.out _ _ ⟨HV8,HX8,Ab (Ab HRC HB7 hb3w) hb8 (by have:=HB7.out.size;omega),Ab (Ab HRB HB7 hb1w) hb8 (by have:=HB7.out.size;omega)⟩ (fun hS=>?_);clear hKK KK hb8 HCL HB7 HX7 HP7 HZ7 HV7 HKP7 HSV7 HOC7 N37;refine ty 12 ⟨some 85,_,_,_,_,none⟩ (.bool (!(fr == 0))) rfl (by rfl) ?_ hS ?_
       ·intro wy hy
        clear hy
        first | (go_simp;done) | (go_simp;rfl)
       simp only [pX];refine td ?_;clear hS;by_cases hz:fr=0
       case neg =>
        rw [show (!(fr == 0))=true by simpa using hz];have HNO:Hid (∀ ci bi y b,¬ Mr x s ci bi y b):=fun ci2 bi2 y2 b2 h=>by
         have e9:=HSC.out.symm.trans h.1;cases e9
         have e8:=HY.out.symm.trans h.2.1;cases e8
         have e7:=HBB.out.symm.trans h.2.2.1;cases e7
         exact hz (HFR.out.symm.trans h.2.2.2.2.2.2)
        clear hz;obtain ⟨wf,HEf,HTZ,HRf,HBf⟩:=noW HZ8 HB8;go_upto_region 12 with fail;go_wp2_with (first | (refine Ag rfl 36 _ _ rfl (w.heap.size+2) 0 FfA rfl rfl HTZ Am (by simp [Value.oneCell']) wf HEf ?_));exact bodyPost_ret (Bi rfl _ _ (w.heap.size+2) FfL _ rfl HRf underlying36 rfl Am) rfl ⟨noF,false,none,0,none,0,none,0,rfl,DoRes.no HNO,SliceC.nil,SliceC.nil,SliceC.nil,HBf.out.1⟩
       case pos =>
        rw [show (!(fr == 0))=false by rw [hz];rfl];have HDR:Hid (DoRes x s (doF x s ci y) true):=Or.inl ⟨rfl,ci,bi,y,b,⟨HSC,HY,HBB,HAT,HMAY,HST2,HFR.out.trans hz⟩,rfl⟩;clear hz;have ho9:=HOC8.out;rw [show Value.slice (some ⟨G,0,none⟩) x.copies.length q3=.slice (some ⟨G,0,none⟩) (atP (Dl x s.gone) ⟨#[]⟩ x.copies).length q3 by rw [Bp]] at ho9;have hy9:=Xl (s:=⟨#[]⟩) HY HCP;obtain ⟨kz,fz⟩:=OwnN.atCell ho9 hy9;have kv:=HV8.out.cell (o:=3) rfl;have kb:=HP8.out.cell (o:=1) rfl;go_upto_region 14 with fail;clear kz fz kv kb;have hg9:=Cp w8 ⟨G,ci*12+11,none⟩ (.string s.berth);have HO9:Hid (Lm bs (w8.setCell ⟨G,ci*12+11,none⟩ (.string s.berth)) (.slice (some ⟨G,0,none⟩) (doF x s ci y).copies.length q3) (doF x s ci y).copies):=by
         have h9:=ho9.setAt hy9 s.berth;show Lm _ _ (.slice _ ((atP _ _ _).set _ _).length _) ((atP _ _ _).set _ _)
         rw [List.length_set];exact h9
        have HV9:=iH (HV8.out.grown hg9 (fun e=>absurd (Option.some.inj e) (by show ¬ w6.heap.size=G;omega)));have HZ9:=iH (HZ8.out.grown hg9 (fun e=>absurd (Option.some.inj e) (by show ¬ w.heap.size+2=G;omega)));have HB9:Hid (Below w.heap.size w (w8.setCell ⟨G,ci*12+11,none⟩ (.string s.berth))):=HB8.out.setCell (show w.heap.size≤(⟨G,ci*12+11,none⟩:Addr).block by show w.heap.size≤G;omega) _;have HSV9:=iH (Bj SvcC.flat HSV8 hg9 (fun b o e _ e2=>absurd (Option.some.inj e2) (by cases e;show ¬ g2=G;omega)));have HBR9:Hid (SliceC BrtC 6 wr.heap.size (w8.setCell ⟨G,ci*12+11,none⟩ (.string s.berth)) e1 x.berths):=HBRB.out.keep BrtC.holds (HKP8.out.grownD hg9 (fun r e=>.inl (by cases e;show wB.heap.size≤G;omega))) hH;clear hg9 ho9 hy9 HOC8 HV8 HZ8 HB8 HSV8 HKP8 HX8 HP8;generalize w8.setCell ⟨G,ci*12+11,none⟩ (.string s.berth)=w9 at *;have HRV:=iH HV9.out.rangeA;have HTZ:=iH HZ9.out.there;obtain ⟨wf,HEf⟩:∃ wf,Hid (wf=w9.setCells (w.heap.size+2) 0 (ffL x e1 q1 (some ⟨g2,0,none⟩) q2 (some ⟨G,0,none⟩) q3)):=⟨_,rfl⟩;have HRf:Hid (wf.rangeAt (w.heap.size+2) 0 (ffL x e1 q1 (some ⟨g2,0,none⟩) q2 (some ⟨G,0,none⟩) q3)):=by
         show World.rangeAt _ _ _ _
         rw [HEf.out];exact World.rangeAt_setCells_same w9 (w.heap.size+2) 0 _ HTZ
        have HF:Hid (SliceC BrtC 6 w.heap.size wf e1 x.berths∧SliceC SvcC 2 w.heap.size wf (some ⟨g2,0,none⟩) x.services∧SliceC CpyC 12 w.heap.size wf (some ⟨G,0,none⟩) (doF x s ci y).copies∧Below w.heap.size w wf):=by
         show _∧_
         rw [HEf.out];have hg9:=Cb (b:=w.heap.size+2) (ffL x e1 q1 (some ⟨g2,0,none⟩) q2 (some ⟨G,0,none⟩) q3) 0 w9;have hkp:Keeps wr.heap.size w9 (w9.setCells (w.heap.size+2) 0 (ffL x e1 q1 (some ⟨g2,0,none⟩) q2 (some ⟨G,0,none⟩) q3)):=Keeps.setCells (by omega) _ _ _;have hl9:(doF x s ci y).copies.length=x.copies.length:=by show ((atP _ _ _).set _ _).length=_;rw [List.length_set,Bp]
         refine ⟨HBR9.out.keep BrtC.holds hkp (by omega),SliceC.keep (C:=SvcC) HSV9 SvcC.holds hkp (by omega),((OwnN.copies HO9 (uD (Qg N3) HY hbz) (by rw [hl9];unfold maxLen;omega)).keep CpyC.holds (Keeps.refl _ _) (show wr.heap.size≤bs by omega)).keep CpyC.holds hkp (by omega),Ad (by omega) _ _ _ HB9⟩
        clear HO9 HV9 HZ9 HB9 HSV9 HBR9;go_wp2_with (first | (refine qLr Kq HRV ?_) | (refine Ag rfl 36 _ _ rfl (w.heap.size+2) 0 (ffA x e1 q1 (some ⟨g2,0,none⟩) q2 (some ⟨G,0,none⟩) q3) rfl rfl HTZ Am (by simp [Value.oneCell']) wf HEf ?_));refine bodyPost_ret (Bi rfl _ _ (w.heap.size+2) (ffL x e1 q1 (some ⟨g2,0,none⟩) q2 (some ⟨G,0,none⟩) q3) _ rfl HRf underlying36 rfl Am) rfl ⟨(doF x s ci y),true,e1,q1,some ⟨g2,0,none⟩,q2,some ⟨G,0,none⟩,q3,?_,HDR,HF.out.1,HF.out.2.1,HF.out.2.2.1,HF.out.2.2.2⟩
        (try unfold ffA);rw [show (doF x s ci y).copies.length=x.copies.length by show ((atP _ _ _).set _ _).length=_;rw [List.length_set,Bp]]
        rfl
end Go.Proofs.YtjoeojhdkoidbaaGreat
