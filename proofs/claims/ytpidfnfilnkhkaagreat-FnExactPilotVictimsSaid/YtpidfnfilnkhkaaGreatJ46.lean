import Derived.Test.YtpidfnfilnkhkaaGreatJ25
set_option maxHeartbeats 4000000
namespace Go.Proofs.YtpidfnfilnkhkaaGreat
set_option maxRecDepth 100000
open Go.RowKit Go.WideMaps Go.Maps
def L3In (B:Nat) (x:Flt) (a1:OA) (c1:Nat) (a2:OA) (c2:Nat) (a3:OA) (c3:Nat) (y:Cpy) (a7:OA) (c7:Nat) (b:Brt) (am:OA) (cm:Nat) (w:World):Prop :=
 Blk B (ffA x a1 c1 a2 c2 a3 c3) 35 w∧Blk (B+1) (ccA y a7 c7) 49 w∧Blk (B+1+1) (bbA b am cm) 52 w
theorem L3In.below {B:Nat} {x:Flt} {a1:OA} {c1:Nat} {a2:OA} {c2:Nat} {a3:OA} {c3:Nat} {y:Cpy} {a7:OA} {c7:Nat} {b:Brt} {am:OA} {cm:Nat} {w w':World} (h:L3In B x a1 c1 a2 c2 a3 c3 y a7 c7 b am cm w) (hb:Below w.heap.size w w'):L3In B x a1 c1 a2 c2 a3 c3 y a7 c7 b am cm w' :=
 ⟨h.1.below hb h.1.lt,h.2.1.below hb h.2.1.lt,h.2.2.below hb h.2.2.lt⟩
theorem L3In.drew {B:Nat} {x:Flt} {a1:OA} {c1:Nat} {a2:OA} {c2:Nat} {a3:OA} {c3:Nat} {y:Cpy} {a7:OA} {c7:Nat} {b:Brt} {am:OA} {cm:Nat} {w:World} (h:L3In B x a1 c1 a2 c2 a3 c3 y a7 c7 b am cm w):L3In B x a1 c1 a2 c2 a3 c3 y a7 c7 b am cm w.drew:=h
theorem L3In.flt {B:Nat} {x:Flt} {a1:OA} {c1:Nat} {a2:OA} {c2:Nat} {a3:OA} {c3:Nat} {y:Cpy} {a7:OA} {c7:Nat} {b:Brt} {am:OA} {cm:Nat} {w:World} (h:L3In B x a1 c1 a2 c2 a3 c3 y a7 c7 b am cm w):FltIn B x a1 c1 a2 c2 a3 c3 w:=⟨h.1.cell rfl,h.1.cell rfl,h.1.cell rfl,h.1.cell rfl⟩
theorem L3In.of (x:Flt) (a1:OA) (c1:Nat) (a2:OA) (c2:Nat) (a3:OA) (c3:Nat) (y:Cpy) (a7:OA) (c7:Nat) (b:Brt) (am:OA) (cm:Nat) (w:World):L3In w.heap.size x a1 c1 a2 c2 a3 c3 y a7 c7 b am cm (((w.alloc (Obj.cells (ffA x a1 c1 a2 c2 a3 c3) 35)).alloc (Obj.cells (ccA y a7 c7) 49)).alloc (Obj.cells (bbA b am cm) 52))∧Below w.heap.size w (((w.alloc (Obj.cells (ffA x a1 c1 a2 c2 a3 c3) 35)).alloc (Obj.cells (ccA y a7 c7) 49)).alloc (Obj.cells (bbA b am cm) 52)):=by
 have e0:=Blk.alloc w (ffA x a1 c1 a2 c2 a3 c3) 35;have e1:Blk (w.heap.size+1) (ccA y a7 c7) 49 ((w.alloc (Obj.cells (ffA x a1 c1 a2 c2 a3 c3) 35)).alloc (Obj.cells (ccA y a7 c7) 49)):=by
  have h:=Blk.alloc (w.alloc (Obj.cells (ffA x a1 c1 a2 c2 a3 c3) 35)) (ccA y a7 c7) 49;simpa using h
 have e2:Blk (w.heap.size+1+1) (bbA b am cm) 52 (((w.alloc (Obj.cells (ffA x a1 c1 a2 c2 a3 c3) 35)).alloc (Obj.cells (ccA y a7 c7) 49)).alloc (Obj.cells (bbA b am cm) 52)):=by
  have h:=Blk.alloc ((w.alloc (Obj.cells (ffA x a1 c1 a2 c2 a3 c3) 35)).alloc (Obj.cells (ccA y a7 c7) 49)) (bbA b am cm) 52;simpa using h
 have b1:=(Below.refl _ (w.alloc (Obj.cells (ffA x a1 c1 a2 c2 a3 c3) 35))).alloc nL (Obj.cells (ccA y a7 c7) 49);have b2:=(Below.refl _ ((w.alloc (Obj.cells (ffA x a1 c1 a2 c2 a3 c3) 35)).alloc (Obj.cells (ccA y a7 c7) 49))).alloc nL (Obj.cells (bbA b am cm) 52);exact ⟨⟨(e0.below b1 e0.lt).below b2 (e0.below b1 e0.lt).lt,e1.below b2 e1.lt,e2⟩,by go_grown⟩
def L3T (B:Nat) (x:Flt) (a1:OA) (c1:Nat) (a2:OA) (c2:Nat) (a3:OA) (c3:Nat) (y:Cpy) (b:Brt) (g:Nat) (c:Cpy) (w:World):Prop :=
 FltIn B x a1 c1 a2 c2 a3 c3 w∧w.cell? ⟨g,11,none⟩=some (.string c.at_)∧w.cell? ⟨g,8,none⟩=some (.int .i64 c.apart)∧w.cell? ⟨B+1,8,none⟩=some (.int .i64 y.apart)∧w.cell? ⟨B+1+1,1,none⟩=some (.string b.zone)
theorem L3In.t {B:Nat} {x:Flt} {a1:OA} {c1:Nat} {a2:OA} {c2:Nat} {a3:OA} {c3:Nat} {y:Cpy} {a7:OA} {c7:Nat} {b:Brt} {am:OA} {cm:Nat} {w:World} (h:L3In B x a1 c1 a2 c2 a3 c3 y a7 c7 b am cm w) {g:Nat} {c:Cpy} (h1:w.cell? ⟨g,11,none⟩=some (.string c.at_)) (h2:w.cell? ⟨g,8,none⟩=some (.int .i64 c.apart)):L3T B x a1 c1 a2 c2 a3 c3 y b g c w :=
 ⟨h.flt,h1,h2,h.2.1.cell rfl,h.2.2.cell rfl⟩
theorem Tx {a c:Int} {hb hz:Bool} (h1:¬ (hb=true∧(a≠0∨c≠0))) (h2:¬ (hz=true∧(a=2∨c=2))):¬ Mc a c hb hz=true:=by
 unfold Mc;simp only [Bool.or_eq_true,Bool.and_eq_true,decide_eq_true_eq];rintro (h | h)
 ·exact h1 h
 ·exact h2 h
theorem Yb {a c:Int} {hb hz:Bool} (h:hb=true) (h1:a≠0∨c≠0):Mc a c hb hz=true:=by
 unfold Mc;simp only [Bool.or_eq_true,Bool.and_eq_true,decide_eq_true_eq];exact Or.inl ⟨h,h1⟩
theorem Ym {a c:Int} {hb hz:Bool} (h:hz=true) (h1:a=2∨c=2):Mc a c hb hz=true:=by
 unfold Mc;simp only [Bool.or_eq_true,Bool.and_eq_true,decide_eq_true_eq];exact Or.inr ⟨h,h1⟩
theorem Gh {s:BA} (h:s=⟨#[]⟩):s.toList.isEmpty=true:=by rw [Bl h];rfl
theorem Fj {s:BA} (h:¬ s=⟨#[]⟩):s.toList.isEmpty=false:=by
 cases e:s.toList with
 | nil=>exact absurd e (Az h)
 | cons a l=>rfl
theorem Ek (lo ci:Nat) (x:Flt) (a1:OA) (c1:Nat) (a2:OA) (c2:Nat) (a3:OA) (c3:Nat) (y:Cpy) (a7:OA) (c7:Nat) (b:Brt) (am:OA) (cm:Nat) (w:World) (n1:SliceC BrtC 6 lo w a1 x.berths) (n3:SliceC CpyC 12 lo w a3 x.copies) (hci:x.copies[ci]?=some y) (hv:Au x=true) :
  Calls Tryz.prog 70 #[.agg (ffA x a1 c1 a2 c2 a3 c3),.agg (ccA y a7 c7),.agg (bbA b am cm)] w (Rt (.bool (Es x ci y b)) w):=by
 have N1:=iH n1;have N3:=iH n3;have HCI:=iH hci;obtain ⟨l2,l3,_,hcN,_,_⟩:=Ay hv;have l1:=(Be hv).1;have HCN:=iH hcN;clear n1 n3 hci hcN;clear hv;obtain ⟨CY,hCY⟩:∃ CY:Array Value,CY=(ccA y a7 c7):=⟨_,rfl⟩;have HCY:=iH hCY;rw [← hCY];clear hCY;go_enter Tryz.func70,Tryz.ntmps70;go_wp2_with fail;have HI0:Hid (L3In w.heap.size x a1 c1 a2 c2 a3 c3 y a7 c7 b am cm (((w.alloc (Obj.cells (ffA x a1 c1 a2 c2 a3 c3) 35)).alloc (Obj.cells CY 49)).alloc (Obj.cells (bbA b am cm) 52))):=by
  rw [HCY.out];exact (L3In.of x a1 c1 a2 c2 a3 c3 y a7 c7 b am cm w).1
 have HB0:Hid (Below w.heap.size w (((w.alloc (Obj.cells (ffA x a1 c1 a2 c2 a3 c3) 35)).alloc (Obj.cells CY 49)).alloc (Obj.cells (bbA b am cm) 52))):=by
  rw [HCY.out];exact (L3In.of x a1 c1 a2 c2 a3 c3 y a7 c7 b am cm w).2
 generalize (((w.alloc (Obj.cells (ffA x a1 c1 a2 c2 a3 c3) 35)).alloc (Obj.cells CY 49)).alloc (Obj.cells (bbA b am cm) 52))=w0 at *;go_loopw [7] (fun i wr=>∃ k:Nat,k≤x.copies.length∧i=.int .i64 k∧Hid (Ck (Om x ci y b) k=false)∧Hid (L3In w.heap.size x a1 c1 a2 c2 a3 c3 y a7 c7 b am cm wr)∧Hid (Below w.heap.size w wr)) (fun i _=>x.copies.length - (intOf i).toNat)
 case atStart=>exact ⟨0,zL,rfl,rfl,HI0,HB0⟩
 case round =>
  clear HI0 HB0;obtain ⟨k,hk,rfl,hT,hI,hB⟩:=hrel;have p3:wr.cell? ⟨w.heap.size,3,none⟩=some (.slice a3 x.copies.length c3):=hI.out.1.cell rfl;by_cases hlt:k<x.copies.length
  ·skip
   obtain ⟨c,hck⟩:=gXe hlt;obtain ⟨cb,co,rfl,_,_,hc⟩:=(N3.out.below CpyC.holds hB.out nL).at hck;obtain ⟨a8,c8,q0,q1,q2,q3,q4,q5,q6,q7,q8,q9,q10,q11,z0,z1,z6,z9,z10,z11,z7⟩:=hc;simp only [Nat.add_zero] at q0 q1 q2 q3 q4 q5 q6 q7 q8 q9 q10 q11;have HRA:Hid (wr.rangeAt cb (co+k*12) (ccL c a8 c8)):=Aa q0 (Aa q1 (Aa q2 (Aa q3 (Aa q4 (Aa q5 (Aa q6 (Aa q7 (Aa q8 (Aa q9 (Aa q10 (Aa q11 (Ao _ _ _))))))))))));have HX:=iH hck;have HSM:Hid (k=ci↔c.name=y.name):=by
    constructor
    ·rintro rfl
     have:=HCI.out;rw [hck] at this;cases this
     rfl
    ·intro e
     exact HCN.out.inj (Cs (f:=(·.name)) hck) (by rw [Cs (f:=(·.name)) HCI.out,e])
   clear hck q0 q1 q2 q3 q4 q5 q6 q7 q8 q9 q10 q11 z0 z1 z6 z7 z9 z10 z11;go_upto_region 5 with (first | (refine qLr Jr HRA ?_));have hbx:=(Below.refl _ wr).alloc nL (Obj.cells (ccA c a8 c8) 49);have HX4:=iH (Blk.alloc wr (ccA c a8 c8) 49);have HI4:=iH (hI.out.below hbx);have HB4:=qTH hB hbx;have hbk:w.heap.size+1+1<wr.heap.size:=hI.out.2.2.lt;clear HRA hbx hI hB p3;generalize (wr.alloc (Obj.cells (ccA c a8 c8) 49))=w4 at *;have y0:w4.cell? ⟨w.heap.size+1,0,none⟩=some (.string y.name):=HI4.out.2.1.cell rfl;have y1:w4.cell? ⟨w.heap.size+1,1,none⟩=some (.string y.service):=HI4.out.2.1.cell rfl;have y8:w4.cell? ⟨w.heap.size+1,8,none⟩=some (.int .i64 y.apart):=HI4.out.2.1.cell rfl;have y9:w4.cell? ⟨w.heap.size+1,9,none⟩=some (.string y.near):=HI4.out.2.1.cell rfl;have zb0:w4.cell? ⟨w.heap.size+1+1,0,none⟩=some (.string b.name):=HI4.out.2.2.cell rfl;have g0:w4.cell? ⟨wr.heap.size,0,none⟩=some (.string c.name):=HX4.out.cell rfl;have g1:w4.cell? ⟨wr.heap.size,1,none⟩=some (.string c.service):=HX4.out.cell rfl;have g4:w4.cell? ⟨wr.heap.size,4,none⟩=some (.int .i64 c.room):=HX4.out.cell rfl;have g5:w4.cell? ⟨wr.heap.size,5,none⟩=some (.int .i64 c.hold):=HX4.out.cell rfl;have g8:w4.cell? ⟨wr.heap.size,8,none⟩=some (.int .i64 c.apart):=HX4.out.cell rfl;have g11:w4.cell? ⟨wr.heap.size,11,none⟩=some (.string c.at_):=HX4.out.cell rfl;by_cases hnm:c.name=y.name
   ·have htn:=Br hnm
    have hkc:=HSM.out.2 hnm;have HTE:Hid (Ck (Om x ci y b) (k+1)=false):=(Bo (Jy HX (fun h=>h.1 hkc))).trans hT.out;clear hnm hkc;go_wp2_with fail;go_roundw
    case rel=>first | exact ⟨k+1,by omega,by go_num,HTE,HI4,HB4⟩ | ((repeat apply Exists.intro);exact ⟨⟨k+1,by omega,by go_num,HTE,HI4,HB4⟩,rfl⟩)
    case measure=>simp [intOf];omega
   have htn:=Bz hnm;have hkc:k≠ci:=fun h=>hnm (HSM.out.1 h)
   clear hnm;by_cases hsv:c.service=y.service
   rotate_left
   ·have hts:=Bz hsv
    have HTE:Hid (Ck (Om x ci y b) (k+1)=false):=(Bo (Jy HX (fun h=>hsv h.2.1))).trans hT.out;clear hsv hkc;go_wp2_with fail;go_roundw
    case rel=>first | exact ⟨k+1,by omega,by go_num,HTE,HI4,HB4⟩ | ((repeat apply Exists.intro);exact ⟨⟨k+1,by omega,by go_num,HTE,HI4,HB4⟩,rfl⟩)
    case measure=>simp [intOf];omega
   have hts:=Br hsv;have HSV:=iH hsv;clear hsv;by_cases hat:c.at_=⟨#[]⟩
   ·have hte:=Bl hat
    have hte2:=Gh hat;have HTE:Hid (Ck (Om x ci y b) (k+1)=false):=(Bo (Jy HX (fun h=>h.2.2.1 hat))).trans hT.out;clear hat hkc;go_wp2_with fail;go_roundw
    case rel=>first | exact ⟨k+1,by omega,by go_num,HTE,HI4,HB4⟩ | ((repeat apply Exists.intro);exact ⟨⟨k+1,by omega,by go_num,HTE,HI4,HB4⟩,rfl⟩)
    case measure=>simp [intOf];omega
   have hte:=Az hat;have hte2:=Fj hat;have HAT:=iH hat;clear hat;by_cases hab:c.at_=b.name
   ·have hta:=Br hab
    have HAB:=iH hab;clear hab;by_cases hca:c.apart=0
    ·by_cases hya:y.apart=0
     ·have HNH:Hid (¬ (decide (c.at_=b.name)=true∧(c.apart≠0∨y.apart≠0))):=fun k=>k.2.elim (fun h=>h hca) (fun h=>h hya)
      obtain ⟨zz,hzz⟩:∃ zz,((Dl x.berths c.at_).toList == b.zone.toList)=zz:=⟨_,rfl⟩;go_upto_region 8 with fail;clear y0 y1 y8 y9 zb0 g0 g1 g4 g5 g8 g11;refine wp_region_held_drew (S:=L3T w.heap.size x a1 c1 a2 c2 (some ⟨cb,co,none⟩) c3 y b wr.heap.size c) (by kernel_rfl) (HI4.out.drew.t (HX4.out.drew.cell rfl) (HX4.out.drew.cell rfl)) (fun hS=>?_);refine x2 0 53 (.agg (ffA x a1 c1 a2 c2 (some ⟨cb,co,none⟩) c3)) rfl hS ?_;simp only [pX];refine x2 1 54 (.pointer (some ⟨wr.heap.size,11,none⟩)) rfl hS ?_;simp only [pX];refine x2 2 55 (.string c.at_) rfl hS ?_;simp only [pX];refine x2 4 57 (.pointer (some ⟨w.heap.size+1+1,1,none⟩)) rfl hS ?_;simp only [pX];refine x2 5 58 (.string b.zone) rfl hS ?_;simp only [pX];refine rd1 3 ⟨some 56,_,_,_,_,none⟩ rfl (fun K hK=>?_);go_simp;refine (Pd x a1 c1 a2 c2 (some ⟨cb,co,none⟩) c3 lo c.at_ _ (N1.out.below BrtC.holds HB4.out.drew nL) (by omega)).mono ?_;rintro e w7 ⟨rfl,hb7⟩;have hd7:Below w4.heap.size w4 w7:=(Below.refl _ w4).drew.trans hb7;have HB7:=qTH HB4 hd7;have HI7:=iH (HI4.out.below hd7);have HX7:=qBk HX4 hd7;refine hK.out _ _ (HI7.out.t (HX7.out.cell rfl) (HX7.out.cell rfl)) (fun hS=>?_);clear hK K hb7 hd7;refine x2 6 59 (.bool zz) rfl hS ?_;simp only [pX];refine x2 7 60 (.bool zz) rfl hS ?_;simp only [pX]
      cases zz with
      | false =>
       have hzo:¬ Dl x.berths c.at_=b.zone:=fun h=>by rw [Br h] at hzz;cases hzz
       refine ts 8 61 rfl hS ?_;simp only [pX];refine ts 9 62 rfl hS ?_;simp only [pX];refine ts 10 63 rfl hS ?_;simp only [pX];refine ts 11 64 rfl hS ?_;simp only [pX];refine ts 12 65 rfl hS ?_;simp only [pX];refine ts 13 66 rfl hS ?_;simp only [pX];refine ts 14 67 rfl hS ?_;simp only [pX];refine ts 15 68 rfl hS ?_;simp only [pX];refine x2 16 69 (.bool false) rfl hS ?_;simp only [pX];refine td ?_;clear hS;have HTE:Hid (Ck (Om x ci y b) (k+1)=false):=(Bo (Jy HX (fun h=>Tx HNH (fun k=>hzo (of_decide_eq_true k.1)) h.2.2.2))).trans hT.out;clear hzo hzz;go_wp2_with fail;go_roundw
       case rel=>first | exact ⟨k+1,by omega,by go_num,HTE,HI7,HB7⟩ | ((repeat apply Exists.intro);exact ⟨⟨k+1,by omega,by go_num,HTE,HI7,HB7⟩,rfl⟩)
       case measure=>simp [intOf];omega
      | true =>
       have hzo:Dl x.berths c.at_=b.zone:=Classical.byContradiction fun h=>by rw [Bz h] at hzz;cases hzz
       have HZO:=iH hzo;clear hzo hzz;refine x2 8 61 (.pointer (some ⟨wr.heap.size,8,none⟩)) rfl hS ?_;simp only [pX];refine x2 9 62 (.int .i64 c.apart) rfl hS ?_;simp only [pX];have hc2:¬ c.apart=2:=by omega
       have hy2:¬ y.apart=2:=by omega
       refine ty 10 ⟨some 63,_,_,_,_,some (7,true)⟩ (.bool false) rfl (by rfl) ?_ hS ?_
       ·intro wy hy
        obtain ⟨⟨y0,y1,y2,y3⟩,u1,u2,u3,u4⟩:=hy;have e2:¬ c.apart=2:=hc2;go_simp
       simp only [pX];refine x2 11 64 (.bool false) rfl hS ?_;simp only [pX];refine x2 12 65 (.pointer (some ⟨w.heap.size+1,8,none⟩)) rfl hS ?_;simp only [pX];refine x2 13 66 (.int .i64 y.apart) rfl hS ?_;simp only [pX];refine ty 14 ⟨some 67,_,_,_,_,some (11,false)⟩ (.bool false) rfl (by rfl) ?_ hS ?_
       ·intro wy hy
        obtain ⟨⟨y0,y1,y2,y3⟩,u1,u2,u3,u4⟩:=hy;have e3:¬ y.apart=2:=hy2;go_simp
       simp only [pX];refine x2 15 68 (.bool false) rfl hS ?_;simp only [pX];refine x2 16 69 (.bool false) rfl hS ?_;simp only [pX];refine td ?_;clear hS;have HTE:Hid (Ck (Om x ci y b) (k+1)=false):=(Bo (Jy HX (fun h=>Tx HNH (fun k=>k.2.elim hc2 hy2) h.2.2.2))).trans hT.out;skip;go_wp2_with fail;go_roundw
       case rel=>first | exact ⟨k+1,by omega,by go_num,HTE,HI7,HB7⟩ | ((repeat apply Exists.intro);exact ⟨⟨k+1,by omega,by go_num,HTE,HI7,HB7⟩,rfl⟩)
       case measure=>simp [intOf];omega
     ·skip
      have HTE:Hid (Es x ci y b=true):=Ez _ (show k+1≤x.copies.length by omega) (Ff (Qb HX hkc HSV HAT (Yb (decide_eq_true HAB) (Or.inr hya))));skip;go_wp2_with fail;go_ret;exact ⟨Ab HTE.out.symm,HB4⟩
    ·skip
     have HTE:Hid (Es x ci y b=true):=Ez _ (show k+1≤x.copies.length by omega) (Ff (Qb HX hkc HSV HAT (Yb (decide_eq_true HAB) (Or.inl hca))));skip;go_wp2_with fail;go_ret;exact ⟨Ab HTE.out.symm,HB4⟩
   ·have hta:=Bz hab
    have HNH:Hid (¬ (decide (c.at_=b.name)=true∧(c.apart≠0∨y.apart≠0))):=fun k=>hab (of_decide_eq_true k.1)
    clear hab;obtain ⟨zz,hzz⟩:∃ zz,((Dl x.berths c.at_).toList == b.zone.toList)=zz:=⟨_,rfl⟩;go_upto_region 8 with fail;clear y0 y1 y8 y9 zb0 g0 g1 g4 g5 g8 g11;refine wp_region_held_drew (S:=L3T w.heap.size x a1 c1 a2 c2 (some ⟨cb,co,none⟩) c3 y b wr.heap.size c) (by kernel_rfl) (HI4.out.drew.t (HX4.out.drew.cell rfl) (HX4.out.drew.cell rfl)) (fun hS=>?_);refine x2 0 53 (.agg (ffA x a1 c1 a2 c2 (some ⟨cb,co,none⟩) c3)) rfl hS ?_;simp only [pX];refine x2 1 54 (.pointer (some ⟨wr.heap.size,11,none⟩)) rfl hS ?_;simp only [pX];refine x2 2 55 (.string c.at_) rfl hS ?_;simp only [pX];refine x2 4 57 (.pointer (some ⟨w.heap.size+1+1,1,none⟩)) rfl hS ?_;simp only [pX];refine x2 5 58 (.string b.zone) rfl hS ?_;simp only [pX];refine rd1 3 ⟨some 56,_,_,_,_,none⟩ rfl (fun K hK=>?_);go_simp;refine (Pd x a1 c1 a2 c2 (some ⟨cb,co,none⟩) c3 lo c.at_ _ (N1.out.below BrtC.holds HB4.out.drew nL) (by omega)).mono ?_;rintro e w7 ⟨rfl,hb7⟩;have hd7:Below w4.heap.size w4 w7:=(Below.refl _ w4).drew.trans hb7;have HB7:=qTH HB4 hd7;have HI7:=iH (HI4.out.below hd7);have HX7:=qBk HX4 hd7;refine hK.out _ _ (HI7.out.t (HX7.out.cell rfl) (HX7.out.cell rfl)) (fun hS=>?_);clear hK K hb7 hd7;refine x2 6 59 (.bool zz) rfl hS ?_;simp only [pX];refine x2 7 60 (.bool zz) rfl hS ?_;simp only [pX]
    cases zz with
    | false =>
     have hzo:¬ Dl x.berths c.at_=b.zone:=fun h=>by rw [Br h] at hzz;cases hzz
     refine ts 8 61 rfl hS ?_;simp only [pX];refine ts 9 62 rfl hS ?_;simp only [pX];refine ts 10 63 rfl hS ?_;simp only [pX];refine ts 11 64 rfl hS ?_;simp only [pX];refine ts 12 65 rfl hS ?_;simp only [pX];refine ts 13 66 rfl hS ?_;simp only [pX];refine ts 14 67 rfl hS ?_;simp only [pX];refine ts 15 68 rfl hS ?_;simp only [pX];refine x2 16 69 (.bool false) rfl hS ?_;simp only [pX];refine td ?_;clear hS;have HTE:Hid (Ck (Om x ci y b) (k+1)=false):=(Bo (Jy HX (fun h=>Tx HNH (fun k=>hzo (of_decide_eq_true k.1)) h.2.2.2))).trans hT.out;clear hzo hzz;go_wp2_with fail;go_roundw
     case rel=>first | exact ⟨k+1,by omega,by go_num,HTE,HI7,HB7⟩ | ((repeat apply Exists.intro);exact ⟨⟨k+1,by omega,by go_num,HTE,HI7,HB7⟩,rfl⟩)
     case measure=>simp [intOf];omega
    | true =>
     have hzo:Dl x.berths c.at_=b.zone:=Classical.byContradiction fun h=>by rw [Bz h] at hzz;cases hzz
     have HZO:=iH hzo;clear hzo hzz;refine x2 8 61 (.pointer (some ⟨wr.heap.size,8,none⟩)) rfl hS ?_;simp only [pX];refine x2 9 62 (.int .i64 c.apart) rfl hS ?_;simp only [pX];by_cases hc2:c.apart=2
     ·skip
      refine ty 10 ⟨some 63,_,_,_,_,some (7,true)⟩ (.bool true) rfl (by rfl) ?_ hS ?_
      ·intro wy hy
       obtain ⟨⟨y0,y1,y2,y3⟩,u1,u2,u3,u4⟩:=hy;have e2:=hc2;go_simp
      simp only [pX];refine x2 11 64 (.bool true) rfl hS ?_;simp only [pX];refine ts 12 65 rfl hS ?_;simp only [pX];refine ts 13 66 rfl hS ?_;simp only [pX];refine ts 14 67 rfl hS ?_;simp only [pX];refine x2 15 68 (.bool true) rfl hS ?_;simp only [pX];refine x2 16 69 (.bool true) rfl hS ?_;simp only [pX];refine td ?_;clear hS;have HTE:Hid (Es x ci y b=true):=Ez _ (show k+1≤x.copies.length by omega) (Ff (Qb HX hkc HSV HAT (Ym (decide_eq_true HZO) (Or.inl hc2))));skip;go_wp2_with fail;go_ret;exact ⟨Ab HTE.out.symm,HB7⟩
     ·skip
      refine ty 10 ⟨some 63,_,_,_,_,some (7,true)⟩ (.bool false) rfl (by rfl) ?_ hS ?_
      ·intro wy hy
       obtain ⟨⟨y0,y1,y2,y3⟩,u1,u2,u3,u4⟩:=hy;have e2:¬ c.apart=2:=hc2;go_simp
      simp only [pX];refine x2 11 64 (.bool false) rfl hS ?_;simp only [pX];refine x2 12 65 (.pointer (some ⟨w.heap.size+1,8,none⟩)) rfl hS ?_;simp only [pX];refine x2 13 66 (.int .i64 y.apart) rfl hS ?_;simp only [pX];by_cases hy2:y.apart=2
      ·skip
       refine ty 14 ⟨some 67,_,_,_,_,some (11,false)⟩ (.bool true) rfl (by rfl) ?_ hS ?_
       ·intro wy hy
        obtain ⟨⟨y0,y1,y2,y3⟩,u1,u2,u3,u4⟩:=hy;have e3:y.apart=2:=hy2;go_simp
       simp only [pX];refine x2 15 68 (.bool true) rfl hS ?_;simp only [pX];refine x2 16 69 (.bool true) rfl hS ?_;simp only [pX];refine td ?_;clear hS;have HTE:Hid (Es x ci y b=true):=Ez _ (show k+1≤x.copies.length by omega) (Ff (Qb HX hkc HSV HAT (Ym (decide_eq_true HZO) (Or.inr hy2))));skip;go_wp2_with fail;go_ret;exact ⟨Ab HTE.out.symm,HB7⟩
      ·skip
       refine ty 14 ⟨some 67,_,_,_,_,some (11,false)⟩ (.bool false) rfl (by rfl) ?_ hS ?_
       ·intro wy hy
        obtain ⟨⟨y0,y1,y2,y3⟩,u1,u2,u3,u4⟩:=hy;have e3:¬ y.apart=2:=hy2;go_simp
       simp only [pX];refine x2 15 68 (.bool false) rfl hS ?_;simp only [pX];refine x2 16 69 (.bool false) rfl hS ?_;simp only [pX];refine td ?_;clear hS;have HTE:Hid (Ck (Om x ci y b) (k+1)=false):=(Bo (Jy HX (fun h=>Tx HNH (fun k=>k.2.elim hc2 hy2) h.2.2.2))).trans hT.out;skip;go_wp2_with fail;go_roundw
       case rel=>first | exact ⟨k+1,by omega,by go_num,HTE,HI7,HB7⟩ | ((repeat apply Exists.intro);exact ⟨⟨k+1,by omega,by go_num,HTE,HI7,HB7⟩,rfl⟩)
       case measure=>simp [intOf];omega
  ·have hke:k=x.copies.length:=by omega
   subst hke;have HTE:Hid (Es x ci y b=false):=hT.out;go_wp2_with fail;go_ret;exact ⟨Ab HTE.out.symm,hB.out⟩
theorem Il (lo ci:Nat) (x:Flt) (a1:OA) (c1:Nat) (a2:OA) (c2:Nat) (a3:OA) (c3:Nat) (y:Cpy) (a7:OA) (c7:Nat) (b:Brt) (am:OA) (cm:Nat) (w:World) (n1:SliceC BrtC 6 lo w a1 x.berths) (n3:SliceC CpyC 12 lo w a3 x.copies) (hci:x.copies[ci]?=some y) (hv:Au x=true) :
  Calls Tryz.prog 71 #[.agg (ffA x a1 c1 a2 c2 a3 c3),.agg (ccA y a7 c7),.agg (bbA b am cm)] w (Rt (.bool (Ej x ci y b)) w):=by
 have N1:=iH n1;have N3:=iH n3;have HCI:=iH hci;obtain ⟨l2,l3,_,hcN,_,_⟩:=Ay hv;have l1:=(Be hv).1;have HCN:=iH hcN;clear n1 n3 hci hcN;clear hv;go_enter Tryz.func71,Tryz.ntmps71;go_upto_region 1 with fail;have HI0:=iH (L3In.of x a1 c1 a2 c2 a3 c3 y a7 c7 b am cm w).1;have HB0:=iH (L3In.of x a1 c1 a2 c2 a3 c3 y a7 c7 b am cm w).2;generalize (((w.alloc (Obj.cells (ffA x a1 c1 a2 c2 a3 c3) 35)).alloc (Obj.cells (ccA y a7 c7) 49)).alloc (Obj.cells (bbA b am cm) 52))=w0 at *;have y9:w0.cell? ⟨w.heap.size+1,9,none⟩=some (.string y.near):=HI0.out.2.1.cell rfl;by_cases hne:y.near=⟨#[]⟩
 ·have t1:=Bl hne
  have t2:=Gh hne;have HT:=iH (mC (x:=x) (ci:=ci) (b:=b) hne);clear hne;go_wp2_with fail;go_ret;exact ⟨Ab HT.out.symm,HB0⟩
 have t1:=Az hne;have t2:=Fj hne;have HNE:=iH hne;clear hne;go_wp2_with fail;go_loopw [7,8] (fun s i wr=>∃ (k:Nat) (q:Bool),k≤x.copies.length∧s=.bool q∧i=.int .i64 k∧Hid (q=Ck (stF x ci y.near) k)∧Hid (Ck (znF x ci y.near b.zone) k=false)∧Hid (L3In w.heap.size x a1 c1 a2 c2 a3 c3 y a7 c7 b am cm wr)∧Hid (Below w.heap.size w wr)) (fun _ i _=>x.copies.length - (intOf i).toNat)
 case atStart=>exact ⟨0,false,zL,rfl,rfl,rfl,rfl,HI0,HB0⟩
 case round =>
  clear HI0 HB0 y9;obtain ⟨k,q,hk,rfl,rfl,hQ,hZ,hI,hB⟩:=hrel;have p3:wr.cell? ⟨w.heap.size,3,none⟩=some (.slice a3 x.copies.length c3):=hI.out.1.cell rfl;by_cases hlt:k<x.copies.length
  ·skip
   obtain ⟨c,hck⟩:=gXe hlt;obtain ⟨cb,co,rfl,_,_,hc⟩:=(N3.out.below CpyC.holds hB.out nL).at hck;obtain ⟨a8,c8,q0,q1,q2,q3,q4,q5,q6,q7,q8,q9,q10,q11,z0,z1,z6,z9,z10,z11,z7⟩:=hc;simp only [Nat.add_zero] at q0 q1 q2 q3 q4 q5 q6 q7 q8 q9 q10 q11;have HRA:Hid (wr.rangeAt cb (co+k*12) (ccL c a8 c8)):=Aa q0 (Aa q1 (Aa q2 (Aa q3 (Aa q4 (Aa q5 (Aa q6 (Aa q7 (Aa q8 (Aa q9 (Aa q10 (Aa q11 (Ao _ _ _))))))))))));have HX:=iH hck;have HSM:Hid (k=ci↔c.name=y.name):=by
    constructor
    ·rintro rfl
     have:=HCI.out;rw [hck] at this;cases this
     rfl
    ·intro e
     exact HCN.out.inj (Cs (f:=(·.name)) hck) (by rw [Cs (f:=(·.name)) HCI.out,e])
   clear hck q0 q1 q2 q3 q4 q5 q6 q7 q8 q9 q10 q11 z0 z1 z6 z7 z9 z10 z11;go_upto_region 8 with (first | (refine qLr Jr HRA ?_));have hbx:=(Below.refl _ wr).alloc nL (Obj.cells (ccA c a8 c8) 49);have HX4:=iH (Blk.alloc wr (ccA c a8 c8) 49);have HI4:=iH (hI.out.below hbx);have HB4:=qTH hB hbx;have hbk:w.heap.size+1+1<wr.heap.size:=hI.out.2.2.lt;clear HRA hbx hI hB p3;generalize (wr.alloc (Obj.cells (ccA c a8 c8) 49))=w4 at *;have y0:w4.cell? ⟨w.heap.size+1,0,none⟩=some (.string y.name):=HI4.out.2.1.cell rfl;have y1:w4.cell? ⟨w.heap.size+1,1,none⟩=some (.string y.service):=HI4.out.2.1.cell rfl;have y8:w4.cell? ⟨w.heap.size+1,8,none⟩=some (.int .i64 y.apart):=HI4.out.2.1.cell rfl;have y9:w4.cell? ⟨w.heap.size+1,9,none⟩=some (.string y.near):=HI4.out.2.1.cell rfl;have zb0:w4.cell? ⟨w.heap.size+1+1,0,none⟩=some (.string b.name):=HI4.out.2.2.cell rfl;have g0:w4.cell? ⟨wr.heap.size,0,none⟩=some (.string c.name):=HX4.out.cell rfl;have g1:w4.cell? ⟨wr.heap.size,1,none⟩=some (.string c.service):=HX4.out.cell rfl;have g4:w4.cell? ⟨wr.heap.size,4,none⟩=some (.int .i64 c.room):=HX4.out.cell rfl;have g5:w4.cell? ⟨wr.heap.size,5,none⟩=some (.int .i64 c.hold):=HX4.out.cell rfl;have g8:w4.cell? ⟨wr.heap.size,8,none⟩=some (.int .i64 c.apart):=HX4.out.cell rfl;have g11:w4.cell? ⟨wr.heap.size,11,none⟩=some (.string c.at_):=HX4.out.cell rfl;by_cases hnm:c.name=y.name
   ·have htn:=Br hnm
    have hkc:=HSM.out.2 hnm;have HQE:Hid (q=Ck (stF x ci y.near) (k+1)):=hQ.out.trans (Bo (fR HX (fun h=>h.1 hkc))).symm;have HZE:Hid (Ck (znF x ci y.near b.zone) (k+1)=false):=(Bo (Wn HX (fun h=>h.1 hkc))).trans hZ.out;clear hnm hkc;go_wp2_with fail;go_roundw
    case rel=>first | exact ⟨k+1,q,by omega,rfl,by go_num,HQE,HZE,HI4,HB4⟩ | ((repeat apply Exists.intro);exact ⟨⟨k+1,q,by omega,rfl,by go_num,HQE,HZE,HI4,HB4⟩,rfl⟩)
    case measure=>simp [intOf];omega
   have htn:=Bz hnm;have hkc:k≠ci:=fun h=>hnm (HSM.out.1 h)
   clear hnm;by_cases hsv:c.service=y.near
   rotate_left
   ·have hts:=Bz hsv
    have HQE:Hid (q=Ck (stF x ci y.near) (k+1)):=hQ.out.trans (Bo (fR HX (fun h=>hsv h.2.1))).symm;have HZE:Hid (Ck (znF x ci y.near b.zone) (k+1)=false):=(Bo (Wn HX (fun h=>hsv h.2.1))).trans hZ.out;clear hsv hkc;go_wp2_with fail;go_roundw
    case rel=>first | exact ⟨k+1,q,by omega,rfl,by go_num,HQE,HZE,HI4,HB4⟩ | ((repeat apply Exists.intro);exact ⟨⟨k+1,q,by omega,rfl,by go_num,HQE,HZE,HI4,HB4⟩,rfl⟩)
    case measure=>simp [intOf];omega
   have hts:=Br hsv;have HSV:=iH hsv;clear hsv;by_cases hat:c.at_=⟨#[]⟩
   ·have hte:=Bl hat
    have hte2:=Gh hat;have HQE:Hid (q=Ck (stF x ci y.near) (k+1)):=hQ.out.trans (Bo (fR HX (fun h=>h.2.2 hat))).symm;have HZE:Hid (Ck (znF x ci y.near b.zone) (k+1)=false):=(Bo (Wn HX (fun h=>h.2.2.1 hat))).trans hZ.out;clear hat hkc;go_wp2_with fail;go_roundw
    case rel=>first | exact ⟨k+1,q,by omega,rfl,by go_num,HQE,HZE,HI4,HB4⟩ | ((repeat apply Exists.intro);exact ⟨⟨k+1,q,by omega,rfl,by go_num,HQE,HZE,HI4,HB4⟩,rfl⟩)
    case measure=>simp [intOf];omega
   have hte:=Az hat;have hte2:=Fj hat;have HAT:=iH hat;clear hat;obtain ⟨zz,hzz⟩:∃ zz,((Dl x.berths c.at_).toList == b.zone.toList)=zz:=⟨_,rfl⟩;go_upto_region 10 with fail;clear y0 y1 y8 y9 zb0 g0 g1 g4 g5 g8 g11;refine wp_region_held_drew (S:=L3T w.heap.size x a1 c1 a2 c2 (some ⟨cb,co,none⟩) c3 y b wr.heap.size c) (by kernel_rfl) (HI4.out.drew.t (HX4.out.drew.cell rfl) (HX4.out.drew.cell rfl)) (fun hS=>?_);refine x2 0 42 (.agg (ffA x a1 c1 a2 c2 (some ⟨cb,co,none⟩) c3)) rfl hS ?_;simp only [pX];refine x2 1 43 (.pointer (some ⟨wr.heap.size,11,none⟩)) rfl hS ?_;simp only [pX];refine x2 2 44 (.string c.at_) rfl hS ?_;simp only [pX];refine x2 4 46 (.pointer (some ⟨w.heap.size+1+1,1,none⟩)) rfl hS ?_;simp only [pX];refine x2 5 47 (.string b.zone) rfl hS ?_;simp only [pX];refine rd1 3 ⟨some 45,_,_,_,_,none⟩ rfl (fun K hK=>?_);go_simp;refine (Pd x a1 c1 a2 c2 (some ⟨cb,co,none⟩) c3 lo c.at_ _ (N1.out.below BrtC.holds HB4.out.drew nL) (by omega)).mono ?_;rintro e w7 ⟨rfl,hb7⟩;have hd7:Below w4.heap.size w4 w7:=(Below.refl _ w4).drew.trans hb7;have HB7:=qTH HB4 hd7;have HI7:=iH (HI4.out.below hd7);have HX7:=qBk HX4 hd7;refine hK.out _ _ (HI7.out.t (HX7.out.cell rfl) (HX7.out.cell rfl)) (fun hS=>?_);clear hK K hb7 hd7;refine x2 6 48 (.bool zz) rfl hS ?_;simp only [pX];refine td ?_;clear hS
   cases zz with
   | false =>
    have hzo:¬ Dl x.berths c.at_=b.zone:=fun h=>by rw [Br h] at hzz;cases hzz
    have HQE:Hid (true=Ck (stF x ci y.near) (k+1)):=(Ff (sP HX hkc HSV HAT)).symm;have HZE:Hid (Ck (znF x ci y.near b.zone) (k+1)=false):=(Bo (Wn HX (fun h=>hzo h.2.2.2))).trans hZ.out;clear hzo hzz;go_wp2_with fail;go_roundw
    case rel=>first | exact ⟨k+1,true,by omega,rfl,by go_num,HQE,HZE,HI7,HB7⟩ | ((repeat apply Exists.intro);exact ⟨⟨k+1,true,by omega,rfl,by go_num,HQE,HZE,HI7,HB7⟩,rfl⟩)
    case measure=>simp [intOf];omega
   | true =>
    have hzo:Dl x.berths c.at_=b.zone:=Classical.byContradiction fun h=>by rw [Bz h] at hzz;cases hzz
    have HTE:Hid (Ej x ci y b=false):=mG (Ez _ (show k+1≤x.copies.length by omega) (Ff (jK HX hkc HSV HAT hzo)));clear hzo hzz;go_wp2_with fail;go_ret;exact ⟨Ab HTE.out.symm,HB7⟩
  ·have hke:k=x.copies.length:=by omega
   subst hke;have y1:wr.cell? ⟨w.heap.size+1,1,none⟩=some (.string y.service):=hI.out.2.1.cell rfl;have y9:wr.cell? ⟨w.heap.size+1,9,none⟩=some (.string y.near):=hI.out.2.1.cell rfl;by_cases hns:y.near=y.service
   ·have tns:=Br hns
    have HT:Hid (Ej x ci y b=(false || q)):=jV HNE hZ.out hQ.out.symm (by rw [decide_eq_false (fun k=>k hns)]);clear hns;cases q
    all_goals
     go_wp2_with fail;go_ret;exact ⟨Ab HT.out.symm,hB.out⟩
   ·have tns:=Bz hns
    have HT:Hid (Ej x ci y b=(true || q)):=jV HNE hZ.out hQ.out.symm (by rw [decide_eq_true hns]);clear hns;cases q
    all_goals
     go_wp2_with fail;go_ret;exact ⟨Ab HT.out.symm,hB.out⟩
end Go.Proofs.YtpidfnfilnkhkaaGreat
