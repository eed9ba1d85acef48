import Derived.Test.YtihnjndnkgnmaaaGreatJ41
import Derived.Test.YtihnjndnkgnmaaaGreatJ43
import Derived.Test.YtihnjndnkgnmaaaGreatSp3
import Derived.Laws.IdiomStrings
set_option maxHeartbeats 8000000
namespace Go.Proofs.YtihnjndnkgnmaaaGreat
set_option maxRecDepth 100000
open Go.RowKit
theorem jB {x:Flt} {v:Evt} (h:evF x v=none):1≤v.kind∧v.kind≤5:=by
 by_cases hk:1≤v.kind∧v.kind≤5
 ·exact hk
 ·unfold evF at h
  rw [if_neg (by omega),if_neg (by omega),if_neg (by omega),if_neg (by omega),if_neg (by omega)] at h;cases h
theorem lW {x y:Flt} {v:Evt} (h:evF x v=some y) (h1:Bj x=true) (h2:Bj y=false):1≤v.kind∧v.kind≤5:=by
 by_cases hk:1≤v.kind∧v.kind≤5
 ·exact hk
 ·unfold evF at h
  rw [if_neg (by omega),if_neg (by omega),if_neg (by omega),if_neg (by omega),if_neg (by omega)] at h;cases h
  rw [h1] at h2;cases h2
theorem kW {x y:Flt} {v:Evt} (h:evF x v=some y) (h1:x.berths.length≤12) (h2:x.services.length≤30) (h3:x.copies.length≤60):y.berths.length≤1048576∧y.services.length≤1048576∧y.copies.length≤1048576:=by
 unfold evF at h
 split at h
 ·cases h
  have:=Dn Brt.name x.berths v.berth;exact ⟨by show (Aq Brt.name x.berths v.berth).length≤_;omega,by show x.services.length≤_;omega,by show x.copies.length≤_;omega⟩
 ·split at h
  ·obtain ⟨k,_,e⟩:=Option.map_eq_some_iff.1 h
   subst e;have:=Gz x.berths k;exact ⟨by show (Ce x.berths k).length≤_;omega,by show x.services.length≤_;omega,by show (x.copies.map _).length≤_;rw [List.length_map];omega⟩
  ·split at h
   ·cases h
    have:=Dn Cpy.name x.copies v.copy;exact ⟨by show x.berths.length≤_;omega,by show x.services.length≤_;omega,by show (Aq Cpy.name x.copies v.copy).length≤_;omega⟩
   ·split at h
    ·obtain ⟨k,_,e⟩:=Option.map_eq_some_iff.1 h
     subst e;have:=Gz x.copies k;exact ⟨by show x.berths.length≤_;omega,by show x.services.length≤_;omega,by show (Ce x.copies k).length≤_;omega⟩
    ·split at h
     ·split at h
      ·obtain ⟨k,_,e⟩:=Option.map_eq_some_iff.1 h
       subst e;have:=Lj x.copies k v.at_;exact ⟨by show x.berths.length≤_;omega,by show x.services.length≤_;omega,by show (Du x.copies k v.at_).length≤_;omega⟩
      ·cases h
     ·cases h
      exact ⟨by omega,by omega,by omega⟩
def HsR (y:Flt) (code:Int) (w:World) (e:Ending) (w':World):Prop :=
 ∃ (d1:OA) (q1:Nat) (d2:OA) (q2:Nat) (d3:OA) (q3:Nat),e=.returned (.tuple #[.agg (ffA y d1 q1 d2 q2 d3 q3),.int .i64 code])∧SliceC BrtC 6 w.heap.size w' d1 y.berths∧SliceC SvcC 2 w.heap.size w' d2 y.services∧SliceC CpyC 12 w.heap.size w' d3 y.copies∧Below w.heap.size w w'
theorem Qa (x:Flt) (v:Evt) (a1:OA) (c1 b2 o2 c2:Nat) (a3:OA) (c3:Nat) (am:OA) (cm:Nat) (al:OA) (cl lo:Nat) (w:World) (n1:SliceC BrtC 6 lo w a1 x.berths) (n2:SliceC SvcC 2 lo w (some ⟨b2,o2,none⟩) x.services) (n3:SliceC CpyC 12 lo w a3 x.copies) (nm:SliceC StrC 1 lo w am v.berth.marks) (nl:SliceC LikC 2 lo w al v.copy.likes) (l1:x.berths.length≤1048576) (l2:x.services.length≤1048576) (l3:x.copies.length≤1048576) (hvm:v.berth.marks.length≤1048576) (hvl:v.copy.likes.length≤1048576) (z1:SzB [v.berth]) (z3:SzC [v.copy]) (za:v.at_.size≤maxLen) :
  Calls Tryz.prog 6 #[.agg (ffA x a1 c1 (some ⟨b2,o2,none⟩) c2 a3 c3),.agg (eeA v am cm al cl)] w fun e w'=>HsR (Hj x v).1 (Hj x v).2 w e w':=by
 have N1:=iH n1;have N2:=iH n2;have N3:=iH n3;have NM:=iH nm;have NL:=iH nl;have HZ1:=iH z1;have HZ3:=iH z3;have HZA:=iH za;clear n1 n2 n3 nm nl z1 z3 za;have h1:=Blk.alloc w (ffA x a1 c1 (some ⟨b2,o2,none⟩) c2 a3 c3) 41;have h2:Blk (w.heap.size+1) (eeA v am cm al cl) 50 ((w.alloc (Obj.cells (ffA x a1 c1 (some ⟨b2,o2,none⟩) c2 a3 c3) 41)).alloc (Obj.cells (eeA v am cm al cl) 50)):=by
  have:=Blk.alloc (w.alloc (Obj.cells (ffA x a1 c1 (some ⟨b2,o2,none⟩) c2 a3 c3) 41)) (eeA v am cm al cl) 50;simpa using this
 have HR3:Hid (Blk (w.heap.size+1+1) zzA 41 (((w.alloc (Obj.cells (ffA x a1 c1 (some ⟨b2,o2,none⟩) c2 a3 c3) 41)).alloc (Obj.cells (eeA v am cm al cl) 50)).alloc (Obj.cells zzA 41))):=by
  have:=Blk.alloc ((w.alloc (Obj.cells (ffA x a1 c1 (some ⟨b2,o2,none⟩) c2 a3 c3) 41)).alloc (Obj.cells (eeA v am cm al cl) 50)) zzA 41;show Blk _ _ _ _
  simpa using this
 have HF3:Hid (Blk w.heap.size (ffA x a1 c1 (some ⟨b2,o2,none⟩) c2 a3 c3) 41 (((w.alloc (Obj.cells (ffA x a1 c1 (some ⟨b2,o2,none⟩) c2 a3 c3) 41)).alloc (Obj.cells (eeA v am cm al cl) 50)).alloc (Obj.cells zzA 41))):=(h1.below ((Below.refl _ _).alloc nL _) h1.lt).below ((Below.refl _ _).alloc nL _) (by simp;omega);have HE3:=iH (h2.below ((Below.refl _ _).alloc nL (Obj.cells zzA 41)) h2.lt);have hB3:Below w.heap.size w (((w.alloc (Obj.cells (ffA x a1 c1 (some ⟨b2,o2,none⟩) c2 a3 c3) 41)).alloc (Obj.cells (eeA v am cm al cl) 50)).alloc (Obj.cells zzA 41)):=by go_grown
 clear h1 h2;go_enter Tryz.func6,Tryz.ntmps6;go_upto_region 1 with fail;generalize (((w.alloc (Obj.cells (ffA x a1 c1 (some ⟨b2,o2,none⟩) c2 a3 c3) 41)).alloc (Obj.cells (eeA v am cm al cl) 50)).alloc (Obj.cells zzA 41))=w3 at *;go_wp2_with (refine lk Bw HF3 ?_);refine (Kc x a1 c1 (some ⟨b2,o2,none⟩) c2 a3 c3 lo _ (N1.out.below BrtC.holds hB3 nL) (N2.out.below SvcC.holds hB3 nL) (N3.out.below CpyC.holds hB3 nL) l1 l2 l3).mono ?_;rintro e w4 ⟨rfl,hb4⟩;rw [← Vg x l3];have HF4:=qb HF3 hb4;have HE4:=qb HE3 hb4;have HR4:=qb HR3 hb4;have hB4:=qt hB3 hb4;clear hb4 HF3 HE3 HR3 hB3
 cases hv:Bj x with
 | false =>
  have HR:=iH (fV (e:=v) hv);clear hv;have hr9:(w.heap.size+1+1)<w4.heap.size:=HR4.out.lt;have HTR:=iH HR4.out.there;obtain ⟨wz,HWZ⟩:∃ w',Hid (w'=w4.setCells (w.heap.size+1+1) 0 zzL):=⟨_,rfl⟩;have HRZ:Hid (wz.rangeAt (w.heap.size+1+1) 0 zzL):=by
   show World.rangeAt _ _ _ _
   rw [HWZ.out];exact World.rangeAt_setCells_same _ _ _ _ HTR
  have hBZ:Below w.heap.size w wz:=by
   rw [HWZ.out];exact Ac (by omega) _ _ _ hB4
  go_wp2_with (first | (refine Ad rfl 41 _ _ rfl (w.heap.size+1+1) 0 zzA rfl rfl HTR Ak (by simp [Value.oneCell']) wz HWZ ?_));exact bodyPost_ret (Dg rfl _ _ (w.heap.size+1+1) zzL _ rfl HRZ Tryz.underlying41 rfl Ak) rfl (by show HsR _ _ _ _ _;rw [HR.out];exact ⟨none,0,none,0,none,0,rfl,SliceC.nil,SliceC.nil,SliceC.nil,hBZ⟩)
 | true =>
  have HV:=iH hv;obtain ⟨hlb,_⟩:=Bx hv;obtain ⟨hls,hlc,_⟩:=Bm hv;have HSM:=iH (Wm (It hv));have hr4:(w.heap.size+1+1)<w4.heap.size:=HR4.out.lt;clear hv;go_wp2_with (first | (refine lk Bw HF4 ?_) | (refine lk Vt HE4 ?_));refine (bJ x v a1 c1 b2 o2 c2 a3 c3 am cm al cl lo _ (N1.out.below BrtC.holds hB4 nL) (N2.out.below SvcC.holds hB4 nL) (N3.out.below CpyC.holds hB4 nL) (NM.out.below StrC.holds hB4 nL) (NL.out.below LikC.holds hB4 nL) HV hlb hls hlc (fun y hy=>(HSM.out.1 y hy).1) (fun y hy=>(HSM.out.2.2.1 y hy).1) hvm hvl HZ1 HZ3 HZA).mono ?_;intro e w5 hres;rcases hres with ⟨hn,u0,u1,u2,u3,rfl,hone,hb5⟩ | ⟨y,d1,q1,d2,q2,d3,q3,hn,rfl,hs1,hs2,hs3,hb5⟩
  ·skip
   have HR:=iH (Md HV (jB hn) hn);have hB5:=qt hB4 hb5;have HE5:=HE4.out.below hb5 HE4.out.lt;have HR5:=HR4.out.below hb5 HR4.out.lt;have hza:=Blk.alloc w5 zzA 41;have HTS:Hid ((w5.alloc (Obj.cells zzA 41)).there w5.heap.size 0 4):=hza.there;obtain ⟨w6,HW6⟩:∃ w6,Hid (w6=(w5.alloc (Obj.cells zzA 41)).setCells w5.heap.size 0 [u0,u1,u2,u3]):=⟨_,rfl⟩;have hbx:Below w5.heap.size w5 w6:=by
    rw [HW6.out];exact Ac nL _ _ _ ((Below.refl _ w5).alloc nL _)
   have hk6:Hid (Blk w5.heap.size #[u0,u1,u2,u3] 41 w6):=by
    show Blk _ _ _ _
    rw [HW6.out];exact hza.setAll #[u0,u1,u2,u3] rfl
   have HE6:=iH (HE5.below hbx HE5.lt);have HR6:=iH (HR5.below hbx HR5.lt);have hB6:=qt hB5 hbx;go_upto_region 4 with (refine Ad rfl 41 _ _ rfl w5.heap.size 0 #[u0,u1,u2,u3] rfl rfl HTS Ak hone w6 HW6 ?_);clear hza HTS HW6 hbx hk6 HE6 HE5 HR5 hB5 hb5 hn hone;go_upto_region 7 with fail;have hr9:(w.heap.size+1+1)<w6.heap.size:=HR6.out.lt;have HTR:=iH HR6.out.there;obtain ⟨wz,HWZ⟩:∃ w',Hid (w'=w6.setCells (w.heap.size+1+1) 0 zzL):=⟨_,rfl⟩;have HRZ:Hid (wz.rangeAt (w.heap.size+1+1) 0 zzL):=by
    show World.rangeAt _ _ _ _
    rw [HWZ.out];exact World.rangeAt_setCells_same _ _ _ _ HTR
   have hBZ:Below w.heap.size w wz:=by
    rw [HWZ.out];exact Ac (by omega) _ _ _ hB6
   go_wp2_with (first | (refine Ad rfl 41 _ _ rfl (w.heap.size+1+1) 0 zzA rfl rfl HTR Ak (by simp [Value.oneCell']) wz HWZ ?_));exact bodyPost_ret (Dg rfl _ _ (w.heap.size+1+1) zzL _ rfl HRZ Tryz.underlying41 rfl Ak) rfl (by show HsR _ _ _ _ _;rw [HR.out];exact ⟨none,0,none,0,none,0,rfl,SliceC.nil,SliceC.nil,SliceC.nil,hBZ⟩)
  ·skip
   have HEV:=iH hn;obtain ⟨m1,m2,m3⟩:=kW hn hlb hls hlc;have hB5:=qt hB4 hb5;have HE5:=HE4.out.below hb5 HE4.out.lt;have HR5:=HR4.out.below hb5 HR4.out.lt;have hza:=Blk.alloc w5 zzA 41;have HTS:Hid ((w5.alloc (Obj.cells zzA 41)).there w5.heap.size 0 4):=hza.there;obtain ⟨w6,HW6⟩:∃ w6,Hid (w6=(w5.alloc (Obj.cells zzA 41)).setCells w5.heap.size 0 (ffL y d1 q1 d2 q2 d3 q3)):=⟨_,rfl⟩;have hbx:Below w5.heap.size w5 w6:=by
    rw [HW6.out];exact Ac nL _ _ _ ((Below.refl _ w5).alloc nL _)
   have hk6:Hid (Blk w5.heap.size (ffA y d1 q1 d2 q2 d3 q3) 41 w6):=by
    show Blk _ _ _ _
    rw [HW6.out];exact hza.setAll (ffA y d1 q1 d2 q2 d3 q3) rfl
   have HE6:=iH (HE5.below hbx HE5.lt);have HR6:=iH (HR5.below hbx HR5.lt);have hB6:=qt hB5 hbx;go_upto_region 4 with (refine Ad rfl 41 _ _ rfl w5.heap.size 0 (ffA y d1 q1 d2 q2 d3 q3) rfl rfl HTS Ak (by simp [Value.oneCell']) w6 HW6 ?_);have HS1:=iH (hs1.below BrtC.holds hbx nL);have HS2:=iH (hs2.below SvcC.holds hbx nL);have HS3:=iH (hs3.below CpyC.holds hbx nL);have hws:=hB4.size;have hw5:=hb5.size;clear hza HTS HW6 hbx HE5 HR5 hB5 hb5 hn hs1 hs2 hs3;generalize w5.heap.size=gx at *;have kx0:w6.cell? ⟨gx,0,none⟩=some (.bool y.pack):=hk6.out.cell rfl;have kx1:w6.cell? ⟨gx,1,none⟩=some (.slice d1 y.berths.length q1):=hk6.out.cell rfl;have kx2:w6.cell? ⟨gx,2,none⟩=some (.slice d2 y.services.length q2):=hk6.out.cell rfl;have kx3:w6.cell? ⟨gx,3,none⟩=some (.slice d3 y.copies.length q3):=hk6.out.cell rfl;go_wp2_with fail;clear kx0 kx1 kx2 kx3;refine (Kc y d1 q1 d2 q2 d3 q3 w4.heap.size _ HS1 HS2 HS3 m1 m2 m3).mono ?_;rintro e w7 ⟨rfl,hb7⟩;rw [← Vg y m3];have HX7:=qb hk6 hb7;have HE7:=qb HE6 hb7;have HR7:=qb HR6 hb7;have hB7:=qt hB6 hb7;replace HS1:=qS BrtC.holds HS1 hb7;replace HS2:=qS SvcC.holds HS2 hb7;replace HS3:=qS CpyC.holds HS3 hb7;clear hb7 HE6 HR6 hB6 hk6
   cases hvy:Bj y with
   | false =>
    have HR:=iH (Mg HV (lW HEV HV hvy) HEV hvy);clear hvy;have hr9:(w.heap.size+1+1)<w7.heap.size:=HR7.out.lt;have HTR:=iH HR7.out.there;obtain ⟨wz,HWZ⟩:∃ w',Hid (w'=w7.setCells (w.heap.size+1+1) 0 zzL):=⟨_,rfl⟩;have HRZ:Hid (wz.rangeAt (w.heap.size+1+1) 0 zzL):=by
     show World.rangeAt _ _ _ _
     rw [HWZ.out];exact World.rangeAt_setCells_same _ _ _ _ HTR
    have hBZ:Below w.heap.size w wz:=by
     rw [HWZ.out];exact Ac (by omega) _ _ _ hB7
    go_wp2_with (first | (refine Ad rfl 41 _ _ rfl (w.heap.size+1+1) 0 zzA rfl rfl HTR Ak (by simp [Value.oneCell']) wz HWZ ?_));exact bodyPost_ret (Dg rfl _ _ (w.heap.size+1+1) zzL _ rfl HRZ Tryz.underlying41 rfl Ak) rfl (by show HsR _ _ _ _ _;rw [HR.out];exact ⟨none,0,none,0,none,0,rfl,SliceC.nil,SliceC.nil,SliceC.nil,hBZ⟩)
   | true =>
    have HVY:=iH hvy;clear hvy;have k0:w7.cell? ⟨w.heap.size+1,0,none⟩=some (.int .i64 v.kind):=HE7.out.cell rfl;go_wp2_with fail;refine (Dw v.kind 1 5 _).mono ?_;rintro e w8 ⟨rfl,rfl⟩;clear k0;by_cases hk:1≤v.kind∧v.kind≤5
    ·have HR:=iH (Ms HV hk HEV HVY)
     have hin:inB v.kind 1 5=true:=decide_eq_true hk;rw [hin];clear hk hin;have hr9:(w.heap.size+1+1)<w8.heap.size:=HR7.out.lt;have HTR:=iH HR7.out.there;obtain ⟨wz,HWZ⟩:∃ w',Hid (w'=w8.setCells (w.heap.size+1+1) 0 (ffL y d1 q1 d2 q2 d3 q3)):=⟨_,rfl⟩;have HRZ:Hid (wz.rangeAt (w.heap.size+1+1) 0 (ffL y d1 q1 d2 q2 d3 q3)):=by
      show World.rangeAt _ _ _ _
      rw [HWZ.out];exact World.rangeAt_setCells_same _ _ _ _ HTR
     have hBZ:Below w.heap.size w wz:=by
      rw [HWZ.out];exact Ac (by omega) _ _ _ hB7
     have HLX:=iH HX7.out.rangeA;have HKS:Hid (SliceC BrtC 6 w.heap.size wz d1 y.berths∧SliceC SvcC 2 w.heap.size wz d2 y.services∧SliceC CpyC 12 w.heap.size wz d3 y.copies):=by
      show _∧_∧_
      rw [HWZ.out];have hkk:Keeps w4.heap.size w8 (w8.setCells (w.heap.size+1+1) 0 (ffL y d1 q1 d2 q2 d3 q3)):=Keeps.setCells hr4 _ _ _;exact ⟨HS1.out.keep BrtC.holds hkk hws,HS2.out.keep SvcC.holds hkk hws,HS3.out.keep CpyC.holds hkk hws⟩
     go_wp2_with (first | (refine lr Bw HLX ?_) | (refine Ad rfl 41 _ _ rfl (w.heap.size+1+1) 0 (ffA y d1 q1 d2 q2 d3 q3) rfl rfl HTR Ak (by simp [Value.oneCell']) wz HWZ ?_));exact bodyPost_ret (Dg rfl _ _ (w.heap.size+1+1) (ffL y d1 q1 d2 q2 d3 q3) _ rfl HRZ Tryz.underlying41 rfl Ak) rfl (by show HsR _ _ _ _ _;rw [HR.out];exact ⟨d1,q1,d2,q2,d3,q3,rfl,HKS.out.1,HKS.out.2.1,HKS.out.2.2,hBZ⟩)
    ·have HR:=iH (gG HV hk)
     have hin:inB v.kind 1 5=false:=decide_eq_false hk;rw [hin];clear hk hin;have hr9:(w.heap.size+1+1)<w8.heap.size:=HR7.out.lt;have HTR:=iH HR7.out.there;obtain ⟨wz,HWZ⟩:∃ w',Hid (w'=w8.setCells (w.heap.size+1+1) 0 zzL):=⟨_,rfl⟩;have HRZ:Hid (wz.rangeAt (w.heap.size+1+1) 0 zzL):=by
      show World.rangeAt _ _ _ _
      rw [HWZ.out];exact World.rangeAt_setCells_same _ _ _ _ HTR
     have hBZ:Below w.heap.size w wz:=by
      rw [HWZ.out];exact Ac (by omega) _ _ _ hB7
     go_wp2_with (first | (refine Ad rfl 41 _ _ rfl (w.heap.size+1+1) 0 zzA rfl rfl HTR Ak (by simp [Value.oneCell']) wz HWZ ?_));exact bodyPost_ret (Dg rfl _ _ (w.heap.size+1+1) zzL _ rfl HRZ Tryz.underlying41 rfl Ak) rfl (by show HsR _ _ _ _ _;rw [HR.out];exact ⟨none,0,none,0,none,0,rfl,SliceC.nil,SliceC.nil,SliceC.nil,hBZ⟩)
def Wc (j:Nat):UInt8:=UInt8.ofNat (48+j % 10)
def Qn:Nat→Nat→BA→BA
 | 0,_,s=>s
 | f+1,j,s=>if j=0 then s else Qn f (j / 10) (⟨#[Wc j]⟩++s)
def Bp (k:Nat):BA:=⟨#[109]⟩++Qn 3000 k ⟨#[]⟩
theorem fF (f:Nat) (s:BA):Qn f 0 s=s:=by
 cases f with
 | zero=>rfl
 | succ f=>simp [Qn]
theorem kR (j:Nat):((Wc j).toNat:Int)=48+(j:Int) % 10:=by
 have h:(Wc j).toNat=48+j % 10:=by
  unfold Wc;rw [UInt8.toNat_ofNat'];omega
 rw [h];omega
theorem Aw (k:Nat) (w:World) (h0:0<k) (h1:k≤1073741824) :
  Calls Tryz.prog 75 #[.int .i64 k] w (Rt (.string (Bp k)) w):=by
 have HR:Hid (Bp k=⟨#[109]⟩++Qn 3000 k ⟨#[]⟩):=rfl;generalize Bp k=M at *;go_enter Tryz.func75,Tryz.ntmps75;go_wp2_with fail;go_loopw [0,3] (fun v o wr=>∃ (j f:Nat) (s:BA),v=.int .i64 j∧o=.string s∧j≤1073741824∧Hid ((∃ e,j<10 ^ e∧e≤f)∧s.size+f=3000∧Qn f j s=Qn 3000 k ⟨#[]⟩)∧Below w.heap.size w wr) (fun v _ _=>(intOf v).toNat)
 case atStart=>exact ⟨k,3000,_,rfl,rfl,by omega,⟨⟨10,by omega,by omega⟩,rfl,rfl⟩,Below.refl _ _⟩
 case round =>
  obtain ⟨j,f,s,rfl,rfl,hj,HF,hbel⟩:=hrel;by_cases hp:0<j
  ·have hcv:(convert 149 9 (.slice (some ⟨wr.heap.size,0,none⟩) 1 1)).run Tryz.prog (wr.alloc (Obj.cells #[.int .u8 (48+(j:Int) % 10)] 5))=.ok (.string ⟨#[Wc j]⟩) (wr.alloc (Obj.cells #[.int .u8 (48+(j:Int) % 10)] 5)) :=
    run_convert_bytes_back _ _ _ 5 ⟨wr.heap.size,0,none⟩ 1 [Wc j] Tryz.underlying149 Tryz.underlying5 Tryz.underlying9 (fun i hi=>by
     have:i=0:=by simpa using hi
     subst this;rw [← kR,Addr.add_mid,World.cell?_alloc_at _ _ _ _ (by rfl)]
     rfl)
   obtain ⟨g,rfl⟩:∃ g,f=g+1:=by
    obtain ⟨e,he,hf⟩:=HF.out.1
    cases e with
    | zero=>simp at he;omega
    | succ e=>exact ⟨f - 1,by omega⟩
   have HN:Hid ((∃ e,j / 10<10 ^ e∧e≤g)∧((⟨#[Wc j]⟩:BA)++s).size+g=3000∧Qn g (j / 10) (⟨#[Wc j]⟩++s)=Qn 3000 k ⟨#[]⟩):=by
    obtain ⟨a,b,c⟩:=HF.out;refine ⟨?_,?_,?_⟩
    ·obtain ⟨e,he,hf⟩:=a
     cases e with
     | zero=>simp at he;omega
     | succ e=>exact ⟨e,by rw [Nat.pow_succ] at he;omega,by omega⟩
    ·rw [ByteArray.size_append]
     show 1+_+_=_
     omega
    ·rw [← c]
     simp only [Qn];rw [if_neg (by omega)]
   have hss:s.size≤3000:=by have:=HF.out.2.1;omega
   clear HF;go_wp2_with fail;go_roundw
   case rel=>exact ⟨j / 10,g,_,by congr 1,rfl,by omega,HN,hbel.alloc hbel.size _⟩
   case measure=>simp [intOf];omega
  ·have hj0:j=0:=by omega
   subst hj0;have HS:Hid (M=⟨#[109]⟩++s):=by
    show _=_
    rw [HR.out,← HF.out.2.2,fF]
   have hss:s.size≤3000:=by have:=HF.out.2.1;omega
   clear HF;go_wp2_with fail;go_ret;exact ⟨by rw [HS.out];rfl,hbel⟩
def b3W (t:Nat):Bool:=decide ((t:Int).tmod 3=0)
def mvK (c t:Nat):Value:=match c with
 | 0=>.string (Bp t)
 | 1=>.int .i64 ((t:Nat):Int)
 | _=>.bool (b3W t)
structure Wr (L:List (Nat×Nat×Nat)) (w w':World):Prop where
 os:w'.os=w.os
 tape:w'.tape=w.tape
 output:w'.output=w.output
 size:w.heap.size≤w'.heap.size
 block:∀ b,b<w.heap.size→(∀ o c,(b,o,c)∉L)→w'.heap[b]?=w.heap[b]?
 cell:∀ b o,b<w.heap.size→(∀ c,(b,o,c)∉L)→w'.cell? ⟨b,o,none⟩=w.cell? ⟨b,o,none⟩
 frozen:∀ b o,b<w.heap.size→w'.frozen? ⟨b,o,none⟩=w.frozen? ⟨b,o,none⟩
 there:∀ b o v,w.cell? ⟨b,o,none⟩=some v→∃ u,w'.cell? ⟨b,o,none⟩=some u
theorem Wr.refl (w:World):Wr [] w w:=⟨rfl,rfl,rfl,Nat.le_refl _,fun _ _ _=>rfl,fun _ _ _ _=>rfl,fun _ _ _=>rfl,fun _ _ v h=>⟨v,h⟩⟩
theorem Wr.below {L:List (Nat×Nat×Nat)} {a b c:World} (h:Wr L a b) (k:Below b.heap.size b c):Wr L a c :=
 ⟨k.os.trans h.os,k.tape.trans h.tape,k.output.trans h.output,lT h.size k.size,fun x hx hn=>(k.block x (lL hx h.size)).trans (h.block x hx hn),
  fun x o hx hn=>(k.cell (p:=⟨x,o,none⟩) (lL hx h.size)).trans (h.cell x o hx hn),fun x o hx=>(k.frozen (p:=⟨x,o,none⟩) (lL hx h.size)).trans (h.frozen x o hx),
  fun x o v hv=>by obtain ⟨u,hu⟩:=h.there x o v hv;exact ⟨u,(k.cell (p:=⟨x,o,none⟩) (block_lt_of_cell hu)).trans hu⟩⟩
theorem Wr.trans {L M:List (Nat×Nat×Nat)} {a b c:World} (h:Wr L a b) (k:Wr M b c):Wr (L++M) a c :=
 ⟨k.os.trans h.os,k.tape.trans h.tape,k.output.trans h.output,lT h.size k.size,
  fun x hx hn=>(k.block x (lL hx h.size) (fun o c hm=>hn o c (List.mem_append_right _ hm))).trans (h.block x hx (fun o c hm=>hn o c (List.mem_append_left _ hm))),
  fun x o hx hn=>(k.cell x o (lL hx h.size) (fun c hm=>hn c (List.mem_append_right _ hm))).trans (h.cell x o hx (fun c hm=>hn c (List.mem_append_left _ hm))),
  fun x o hx=>(k.frozen x o (lL hx h.size)).trans (h.frozen x o hx),
  fun x o v hv=>by obtain ⟨u,hu⟩:=h.there x o v hv;exact k.there x o u hu⟩
theorem Wr.one (w:World) (b o c:Nat) (v:Value):Wr [(b,o,c)] w (w.setCell ⟨b,o,none⟩ v):=by
 refine ⟨rfl,rfl,rfl,by simp [World.setCell],fun x _ hn=>Below.heap_setCell w ⟨b,o,none⟩ v x (fun e=>?_),fun x p _ hn=>?_,fun x p _=>World.frozen?_setCell _ _ _ _,fun x p u hu=>?_⟩
 ·exact hn o c (by rw [show x=b from e];simp)
 ·refine World.cell?_setCell_other _ _ _ _ (fun e=>?_)
  cases e
  exact hn c (by simp)
 ·by_cases e:(⟨b,o,none⟩:Addr)=⟨x,p,none⟩
  ·cases e
   exact ⟨v,World.cell?_setCell_same _ _ _ hu⟩
  ·exact ⟨u,(World.cell?_setCell_other _ _ _ _ e).trans hu⟩
theorem Wr.set {L:List (Nat×Nat×Nat)} {a w:World} (h:Wr L a w) (b o c:Nat) (v:Value):Wr (L++[(b,o,c)]) a (w.setCell ⟨b,o,none⟩ v):=h.trans (Wr.one w b o c v)
theorem Wr.bel {L:List (Nat×Nat×Nat)} {w w':World} {B:Nat} (h:Wr L w w') (hB:B≤w.heap.size) (hl:∀ p∈L,B≤p.1):Below B w w' :=
 ⟨h.os,h.tape,h.output,h.size,fun k hk=>h.block k (by omega) (fun o c hm=>by have:=hl _ hm;simp at this;omega)⟩
def Mk (w:World) (L:List (Nat×Nat×Nat)) (k:Nat):Prop:=∀ j b o c,L[j]?=some (b,o,c)→w.cell? ⟨b,o,none⟩=some (mvK c (k+j))
theorem Mk.nil (w:World) (k:Nat):Mk w [] k:=fun j b o c h=>by cases h
theorem Mk.below {w w':World} {L:List (Nat×Nat×Nat)} {k:Nat} (h:Mk w L k) (hb:Below w.heap.size w w'):Mk w' L k:=fun j b o c hj=>(hb.cell (p:=⟨b,o,none⟩) (block_lt_of_cell (h j b o c hj))).trans (h j b o c hj)
theorem Mk.wr {w w':World} {L M:List (Nat×Nat×Nat)} {k:Nat} (h:Mk w L k) (hw:Wr M w w') (hd:∀ b o c c',(b,o,c)∈L→(b,o,c')∉M):Mk w' L k:=fun j b o c hj =>
 (hw.cell b o (block_lt_of_cell (h j b o c hj)) (fun c'=>hd b o c c' (List.mem_of_getElem? hj))).trans (h j b o c hj)
theorem Mk.app {w:World} {L M:List (Nat×Nat×Nat)} {k:Nat} (h:Mk w L k) (h2:Mk w M (k+L.length)):Mk w (L++M) k:=by
 intro j b o c hj;by_cases hlt:j<L.length
 ·rw [List.getElem?_append_left hlt] at hj
  exact h j b o c hj
 ·rw [List.getElem?_append_right (by omega)] at hj
  have:=h2 _ b o c hj
  rwa [show k+L.length+(j - L.length)=k+j by omega] at this
theorem Mk.left {w:World} {L M:List (Nat×Nat×Nat)} {k:Nat} (h:Mk w (L++M) k):Mk w L k:=fun j b o c hj=>h j b o c (by rw [List.getElem?_append_left (Ae hj)];exact hj)
theorem Mk.right {w:World} {L M:List (Nat×Nat×Nat)} {k:Nat} (h:Mk w (L++M) k):Mk w M (k+L.length):=fun j b o c hj=>by
 have:=h (L.length+j) b o c (by rw [List.getElem?_append_right (by omega),Nat.add_sub_cancel_left];exact hj)
 rwa [← Nat.add_assoc] at this
theorem Mk.one {w:World} {b o c k:Nat} (h:w.cell? ⟨b,o,none⟩=some (mvK c k)):Mk w [(b,o,c)] k:=fun j b' o' c' hj=>by
 cases j with
 | zero=>cases hj;exact h
 | succ j=>simp at hj
theorem Mk.hd {w:World} {b o c k:Nat} {L:List (Nat×Nat×Nat)} (h:Mk w ((b,o,c)::L) k):w.cell? ⟨b,o,none⟩=some (mvK c k):=h 0 b o c rfl
theorem Mk.tl {w:World} {p:Nat×Nat×Nat} {k:Nat} {L:List (Nat×Nat×Nat)} (h:Mk w (p::L) k):Mk w L (k+1):=fun j b o c hj=>by
 have:=h (j+1) b o c hj
 rwa [show k+(j+1)=k+1+j by omega] at this
theorem Mk.set {w:World} {L:List (Nat×Nat×Nat)} {k b o c:Nat} {u v:Value} (h:Mk w L k) (hn:∀ c',(b,o,c')∉L) (hc:w.cell? ⟨b,o,none⟩=some u) (hv:v=mvK c (k+L.length)):Mk (w.setCell ⟨b,o,none⟩ v) (L++[(b,o,c)]) k:=by
 subst hv;refine Mk.app (h.wr (Wr.one w b o c _) (fun b' o' c' c2 hm hm2=>?_)) (Mk.one (World.cell?_setCell_same _ _ _ hc));simp at hm2;obtain ⟨rfl,rfl,rfl⟩:=hm2;exact hn _ hm
def LS (a:OA) (n:Nat):List (Nat×Nat×Nat):=match a with
 | some ad=>(List.range n).map (fun t=>(ad.block,ad.off+t,0))
 | none=>[]
theorem Js (a:OA):LS a 0=[]:=by cases a <;> rfl
theorem aF (b o n:Nat):LS (some ⟨b,o,none⟩) (n+1)=LS (some ⟨b,o,none⟩) n++[(b,o+n,0)]:=by
 show List.map _ _=List.map _ _++_
 rw [List.range_succ,List.map_append];rfl
theorem Yn (b o n:Nat):(LS (some ⟨b,o,none⟩) n).length=n:=by show (List.map _ _).length=n;simp
theorem eC {b o n x p c:Nat} (h:(x,p,c)∈LS (some ⟨b,o,none⟩) n):x=b∧o≤p∧p<o+n:=by
 have h:(x,p,c)∈List.map (fun t=>(b,o+t,0)) (List.range n):=h;simp at h;obtain ⟨t,ht,rfl,rfl,rfl⟩:=h;omega
def EnW (w:World) (b o n:Nat):Prop:=(∀ t,t<n→∃ u,w.cell? ⟨b,o+t,none⟩=some u)∧∀ p,w.frozen? ⟨b,p,none⟩=false
theorem EnW.wr {w w':World} {L:List (Nat×Nat×Nat)} {b o n:Nat} (h:EnW w b o n) (hw:Wr L w w') (hb:b<w.heap.size):EnW w' b o n :=
 ⟨fun t ht=>by obtain ⟨u,hu⟩:=h.1 t ht;exact hw.there b _ u hu,fun p=>(hw.frozen b p hb).trans (h.2 p)⟩
def lY:Value→Bool
 | .slice _ _ _=>true
 | _=>false
structure Mkd (lo:Nat) (wx ws w:World):Prop where
 bel:Below lo ws w
 up:∀ b o,wx.heap.size≤b→b<ws.heap.size→w.cell? ⟨b,o,none⟩=ws.cell? ⟨b,o,none⟩∧w.frozen? ⟨b,o,none⟩=ws.frozen? ⟨b,o,none⟩
 sl:∀ b o v,wx.cell? ⟨b,o,none⟩=some v→lY v=true→w.cell? ⟨b,o,none⟩=some v
 so:∀ b o v,wx.cell? ⟨b,o,none⟩=some v→∃ u,w.cell? ⟨b,o,none⟩=some u
 fz:∀ b o,b<wx.heap.size→w.frozen? ⟨b,o,none⟩=wx.frozen? ⟨b,o,none⟩
 sz:wx.heap.size≤w.heap.size
 lo_:lo≤wx.heap.size
theorem Mkd.start {lo:Nat} {wx ws:World} (h:Below wx.heap.size wx ws) (hl:lo≤wx.heap.size):Mkd lo wx ws ws where
 bel:=Below.refl _ _
 up:=fun _ _ _ _=>⟨rfl,rfl⟩
 sl:=fun b o _ hv _=>(h.cell (p:=⟨b,o,none⟩) (block_lt_of_cell hv)).trans hv
 so:=fun b o v hv=>⟨v,(h.cell (p:=⟨b,o,none⟩) (block_lt_of_cell hv)).trans hv⟩
 fz:=fun b o hb=>h.frozen (p:=⟨b,o,none⟩) hb
 sz:=h.size
 lo_:=hl
theorem Mkd.below {lo:Nat} {wx ws w w':World} (m:Mkd lo wx ws w) (h:Below w.heap.size w w'):Mkd lo wx ws w' where
 bel:=m.bel.trans (h.mono (lT m.lo_ m.sz))
 up:=fun b o h1 h2=>by
  have hb:b<w.heap.size:=lL h2 m.bel.size;exact ⟨(h.cell (p:=⟨b,o,none⟩) hb).trans (m.up b o h1 h2).1,(h.frozen (p:=⟨b,o,none⟩) hb).trans (m.up b o h1 h2).2⟩
 sl:=fun b o v hv hs=>(h.cell (p:=⟨b,o,none⟩) (block_lt_of_cell (m.sl b o v hv hs))).trans (m.sl b o v hv hs)
 so:=fun b o v hv=>by
  obtain ⟨u,hu⟩:=m.so b o v hv;exact ⟨u,(h.cell (p:=⟨b,o,none⟩) (block_lt_of_cell hu)).trans hu⟩
 fz:=fun b o hb=>(h.frozen (p:=⟨b,o,none⟩) (lL hb m.sz)).trans (m.fz b o hb)
 sz:=lT m.sz h.size
 lo_:=m.lo_
theorem Mkd.set {lo:Nat} {wx ws w:World} (m:Mkd lo wx ws w) {b o:Nat} {v0:Value} (hl:lo≤b) (hx:wx.cell? ⟨b,o,none⟩=some v0) (hs:lY v0=false) (v:Value):Mkd lo wx ws (w.setCell ⟨b,o,none⟩ v) where
 bel:=m.bel.setCell hl v
 up:=fun b' o' h1 h2=>by
  have hb:=block_lt_of_cell hx;have hne:b'≠b:=by
   have:b<wx.heap.size:=hb;omega
  refine ⟨(World.cell?_of_block (w:=w) (a:=⟨b',o',none⟩) (Below.heap_setCell w ⟨b,o,none⟩ v b' hne)).trans (m.up b' o' h1 h2).1,?_⟩;rw [World.frozen?_setCell];exact (m.up b' o' h1 h2).2
 sl:=fun b' o' u hu hu2=>by
  by_cases e:(⟨b,o,none⟩:Addr)=⟨b',o',none⟩
  ·cases e
   rw [hx] at hu;cases hu
   rw [hs] at hu2;cases hu2
  ·exact (World.cell?_setCell_other _ _ _ _ e).trans (m.sl b' o' u hu hu2)
 so:=fun b' o' u hu=>by
  obtain ⟨u',hu'⟩:=m.so b' o' u hu;by_cases e:(⟨b,o,none⟩:Addr)=⟨b',o',none⟩
  ·cases e
   exact ⟨v,World.cell?_setCell_same _ _ _ hu'⟩
  ·exact ⟨u',(World.cell?_setCell_other _ _ _ _ e).trans hu'⟩
 fz:=fun b' o' hb=>by
  rw [World.frozen?_setCell];exact m.fz b' o' hb
 sz:=lT m.sz (by simp [World.setCell])
 lo_:=m.lo_
theorem Mkd.rebase {lo:Nat} {wx ws w:World} (m:Mkd lo wx ws w):Mkd lo wx w w where
 bel:=Below.refl _ _
 up:=fun _ _ _ _=>⟨rfl,rfl⟩
 sl:=m.sl
 so:=m.so
 fz:=m.fz
 sz:=m.sz
 lo_:=m.lo_
theorem Mkd.trans {lo:Nat} {wx ws w w':World} (m:Mkd lo wx ws w) (k:Mkd lo wx w w'):Mkd lo wx ws w' where
 bel:=m.bel.trans k.bel
 up:=fun b o h1 h2=>by
  have hb:b<w.heap.size:=lL h2 m.bel.size;exact ⟨(k.up b o h1 hb).1.trans (m.up b o h1 h2).1,(k.up b o h1 hb).2.trans (m.up b o h1 h2).2⟩
 sl:=k.sl
 so:=k.so
 fz:=k.fz
 sz:=k.sz
 lo_:=k.lo_
theorem De (z:Int) (w:World) (h0:0<z) (h1:z≤1073741824) :
  Calls Tryz.prog 75 #[.int .i64 z] w fun e w'=>∃ s,e=.returned (.string s)∧Below w.heap.size w w':=by
 obtain ⟨k,rfl⟩:∃ k:Nat,z=k:=⟨z.toNat,by omega⟩;exact (Aw k w (by omega) (by omega)).mono fun _ _ h=>⟨_,h⟩
theorem St (xs:List BA) (a:OA) (cap lo:Nat) (z:Int) (wx ws w:World) (hin:SliceC StrC 1 lo wx a xs) (hlo:0<lo) (hm:Mkd lo wx ws w) (h0:0<z) (h1:z+xs.length≤1073741824) :
  Calls Tryz.prog 76 #[.slice a xs.length cap,.int .i64 z] w fun e w'=>e=.returned (.int .i64 (z+xs.length))∧Mkd lo wx ws w':=by
 have HI:=iH hin;have HM:=iH hm;clear hin hm;go_enter Tryz.func76,Tryz.ntmps76;go_wp2_with fail;go_loopw [1,5] (fun v i wr=>∃ j:Nat,j≤xs.length∧i=.int .i64 j∧v=.int .i64 (z+j)∧Hid (Mkd lo wx ws wr)) (fun _ i _=>xs.length - (intOf i).toNat)
 case atStart=>exact ⟨0,zL,rfl,by simp,HM⟩
 case round =>
  clear HM;obtain ⟨j,hj,rfl,rfl,hM⟩:=hrel;by_cases hlt:j<xs.length
  ·obtain ⟨x,hx⟩:=gX hlt
   obtain ⟨b,o,rfl,hb,hbl,hc⟩:=HI.out.at hx;obtain ⟨r0,_⟩:=hc;simp only [Nat.mul_one,Nat.add_zero] at r0;have HR:=iH r0;have hne:xs≠[]:=fun e=>by rw [e] at hlt;exact absurd hlt (Nat.not_lt_zero _)
   have i0:(0:Int)≤(j:Int):=by omega
   have i1:(j:Int)<(xs.length:Int):=by omega
   clear hx r0;go_wp2_with fail;refine (De _ _ (by omega) (by omega)).mono ?_;rintro e w1 ⟨s,rfl,hb1⟩;have M1:=iH (hM.out.below hb1);obtain ⟨u0,c0⟩:=M1.out.so b (o+j) _ HR;have f0:=(M1.out.fz b (o+j) hbl).trans (HI.out.frz hne hlo (o+j));have M2:=iH (M1.out.set hb HR rfl (.string s));clear hb1 M1 hne;go_wp2_with fail;go_roundw
   case rel=>exact ⟨j+1,by omega,by go_num,by go_num,M2⟩
   case measure=>simp [intOf];omega
  ·have hje:j=xs.length:=by omega
   subst hje;go_wp2_with fail;go_ret;exact ⟨rfl,hM.out⟩
def MarkedS (w:World) (a:OA) (n k:Nat):Prop:=n=0∨∃ b o,a=some ⟨b,o,none⟩∧∀ j,j<n→w.cell? ⟨b,o+j,none⟩=some (.string (Bp (k+j)))
theorem MarkedS.below {w w':World} {a:OA} {n k:Nat} (h:MarkedS w a n k) (hb:Below w.heap.size w w'):MarkedS w' a n k:=by
 rcases h with h | ⟨b,o,e,h⟩
 ·exact .inl h
 ·exact .inr ⟨b,o,e,fun j hj=>(hb.cell (p:=⟨b,o+j,none⟩) (block_lt_of_cell (h j hj))).trans (h j hj)⟩
theorem Tk (a:OA) (n cap k:Nat) (w:World) (hin:MarkedS w a n k) (h0:0<k) (h1:k+n≤1073741824) :
  Calls Tryz.prog 78 #[.slice a n cap,.int .i64 k] w (Rt (.int .i64 ((k+n:Nat):Int)) w):=by
 have HI:=iH hin;clear hin;go_enter Tryz.func78,Tryz.ntmps78;go_wp2_with fail;go_loopw [1,5] (fun v i wr=>∃ j:Nat,j≤n∧i=.int .i64 j∧v=.int .i64 ((k+j:Nat):Int)∧Hid (Below w.heap.size w wr)) (fun _ i _=>n - (intOf i).toNat)
 case atStart=>exact ⟨0,zL,rfl,rfl,Below.refl _ _⟩
 case round =>
  obtain ⟨j,hj,rfl,rfl,hB⟩:=hrel;by_cases hlt:j<n
  ·have hM:=HI.out.below hB.out
   obtain ⟨b,o,rfl,hc⟩:∃ b o,a=some ⟨b,o,none⟩∧∀ j,j<n→wr.cell? ⟨b,o+j,none⟩=some (.string (Bp (k+j))):=by
    rcases hM with h | h
    ·omega
    ·exact h
   have r0:=hc j hlt;have HR:=iH r0;have i0:(0:Int)≤(j:Int):=by omega
   have i1:(j:Int)<(n:Int):=by omega
   have hbl:b<wr.heap.size:=block_lt_of_cell r0;clear hc hM;go_upto_region 4 with fail;refine wp_region_held_drew (S:=fun wy=>wy.cell? ⟨b,o+j,none⟩=some (.string (Bp (k+j)))) (by kernel_rfl) (by simpa using r0) (fun hS=>?_);refine ty 0 ⟨some 12,_,_,_,_,none⟩ (.slice (some ⟨b,o,none⟩) n cap) rfl (by rfl) ?_ hS ?_
   ·intro wy hy
    skip;go_simp
   simp only [pX];refine ty 1 ⟨some 13,_,_,_,_,none⟩ (.int .i64 (j:Int)) rfl (by rfl) ?_ hS ?_
   ·intro wy hy
    skip;go_simp
   simp only [pX];refine ty 2 ⟨some 14,_,_,_,_,none⟩ (.pointer (some ⟨b,o+j,none⟩)) rfl (by rfl) ?_ hS ?_
   ·intro wy hy
    skip;go_simp
   simp only [pX];refine ty 3 ⟨some 15,_,_,_,_,none⟩ (.string (Bp (k+j))) rfl (by rfl) ?_ hS ?_
   ·intro wy hy
    skip;go_simp
   simp only [pX];refine ty 4 ⟨some 16,_,_,_,_,none⟩ (.int .i64 ((k+j:Nat):Int)) rfl (by rfl) ?_ hS ?_
   ·intro wy hy
    skip;go_simp
   simp only [pX];refine rd1 5 ⟨some 17,_,_,_,_,none⟩ rfl (fun K hK=>?_);go_simp;refine (Aw (k+j) _ (by omega) (by omega)).mono ?_;rintro e w1 ⟨rfl,hb1⟩;have hd:Below wr.heap.size wr w1:=(Below.refl _ wr).drew.trans hb1;have HB1:=qT hB hd;refine hK.out _ _ ((hd.cell (p:=⟨b,o+j,none⟩) hbl).trans HR) (fun hS=>?_);clear hK K hb1 hd;refine ty 6 ⟨some 18,_,_,_,_,none⟩ (.bool false) rfl (by rfl) ?_ hS ?_
   ·intro wy hy
    skip;go_simp
   simp only [pX];refine td ?_;clear hS;go_wp2_with fail;go_roundw
   case rel=>exact ⟨j+1,by omega,by go_num,by go_num,HB1⟩
   case measure=>simp [intOf];omega
  ·have hje:j=n:=by omega
   subst hje;go_wp2_with fail;go_ret;exact ⟨rfl,hB.out⟩
end Go.Proofs.YtihnjndnkgnmaaaGreat
