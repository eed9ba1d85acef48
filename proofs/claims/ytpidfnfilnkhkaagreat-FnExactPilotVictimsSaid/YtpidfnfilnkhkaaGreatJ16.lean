import Derived.Test.YtpidfnfilnkhkaaGreatJ15
import Derived.Sort.AtCall
set_option maxHeartbeats 4000000
set_option maxRecDepth 100000
namespace Go.Proofs.YtpidfnfilnkhkaaGreat
open Go.RowKit Go.WideMaps Go.Maps
theorem Aw {ns:List BA} {m n l:Nat} {w:World} {s:BA} (h:w.ownsMap Tryz.prog 9 (plainElem Tryz.prog 3) m n (Ai ns l)) (hs:s.size≤maxLen) :
  (Instr.lookup 64 (.map (some m)) (.string s) true).run Tryz.prog w=.ok (.tuple #[.int .i64 (((Am ns s l).getD 0:Nat):Int),.bool (Am ns s l).isSome]) w:=by
 have hkey:keyOf Tryz.prog 9 (.string s)=some (kOf s):=keyOf_string_mk Tryz.underlying9 hs;obtain ⟨v,ps,hrun,hv⟩:=h.look_ok Cw Tryz.underlying64 (Di w) (plainElem_int Tryz.underlying3 (a:=0) (by decide)) hkey;obtain ⟨c,rfl,hc,_⟩:=plainElem_int_inv Tryz.underlying3 hv;have h1:=congrArg Prod.fst hc;simp only at h1;have h3:=h1.symm.trans (Ik ns s l);have h5:c=(((Am ns s l).getD 0:Nat):Int):=by simpa using h3
 rw [hrun,h5,Gz ns s l]
def Hs (x:Flt) (c:Cpy):Bool :=
 (Am (x.services.map (·.name)) c.service x.services.length).isSome && ((Am (x.berths.map (·.name)) c.at_ x.berths.length).isSome || decide (c.at_.size=0)) && Cp c
def Bw (x:Flt):Bool:=x.copies.all (Hs x)
theorem iK (p:Nat) (x:Flt) (a3:OA) (c3:Nat) (m1 m2:Nat) (lo:Nat) (w:World) (p3:w.cell? ⟨p,3,none⟩=some (.slice a3 x.copies.length c3)) (p4:w.cell? ⟨p,4,none⟩=some (.map (some m1))) (p5:w.cell? ⟨p,5,none⟩=some (.map (some m2)))
  (o1:w.ownsMap Tryz.prog 9 (plainElem Tryz.prog 3) m1 x.berths.length (Ai (x.berths.map (·.name)) x.berths.length)) (o2:w.ownsMap Tryz.prog 9 (plainElem Tryz.prog 3) m2 x.services.length (Ai (x.services.map (·.name)) x.services.length)) (n3:SliceC CpyC 12 lo w a3 x.copies) (l3:x.copies.length≤1048576) :
  Calls Tryz.prog 109 #[.pointer (some ⟨p,0,none⟩)] w (Rt (.bool (Bw x)) w):=by
 have N3:=iH n3;have O1:=iH o1;have O2:=iH o2;have hpl:p<w.heap.size:=block_lt_of_cell p3;have hm1:m1<w.heap.size:=o1.lt;have hm2:m2<w.heap.size:=o2.lt;have P4:=iH p4;have P5:=iH p5;clear n3 o1 o2 p4 p5;go_enter Tryz.func109,Tryz.ntmps109;go_wp2_with fail;go_loopw [15] (fun i wr=>∃ k:Nat,k≤x.copies.length∧i=.int .i64 k∧Hid (∀ j y,j<k→x.copies[j]?=some y→Hs x y=true)∧Below w.heap.size w wr) (fun i _=>x.copies.length - (intOf i).toNat)
 case atStart=>exact ⟨0,zL,rfl,fun j y h=>absurd h (Nat.not_lt_zero _),by go_grown⟩
 case round =>
  obtain ⟨k,hk,rfl,ho,hbel⟩:=hrel;by_cases hlt:k<x.copies.length
  ·obtain ⟨y,hy⟩:=gXe hlt
   obtain ⟨b,o,rfl,_,_,hc⟩:=(N3.out.below CpyC.holds hbel nL).at hy;obtain ⟨a7,c7,q0,q1,q2,q3,q4,q5,q6,q7,q8,q9,q10,q11,z0,z1,z6,z9,z10,z11,z7⟩:=hc;simp only [Nat.add_zero] at q0 q1 q2 q3 q4 q5 q6 q7 q8 q9 q10 q11;have Z1:=iH z1;have Z6:=iH z6;have Z9:=iH z9;have Z10:=iH z10;have Z11:=iH z11;have Z7:=iH z7;have HRA:Hid (wr.rangeAt b (o+k*12) (ccL y a7 c7)):=Aa q0 (Aa q1 (Aa q2 (Aa q3 (Aa q4 (Aa q5 (Aa q6 (Aa q7 (Aa q8 (Aa q9 (Aa q10 (Aa q11 (Ao _ _ _))))))))))));have HX:=iH hy;have HB:=iH hbel;clear hy hbel q0 q1 q2 q3 q4 q5 q6 q7 q8 q9 q10 q11 z0 z1 z6 z7 z9 z10 z11;go_upto_region 4 with (first | (refine qLr Jr HRA ?_));have HG:=qRa wr (ccA y a7 c7) 49 (ccL y a7 c7);have HB4:Hid (Below w.heap.size w (wr.alloc (Obj.cells (ccA y a7 c7) 49))):=HB.out.alloc HB.out.size _;have HS4:Hid (wr.heap.size<(wr.alloc (Obj.cells (ccA y a7 c7) 49)).heap.size):=by show _<_;simp
   have Z74:Hid (SliceC LikC 2 lo (wr.alloc (Obj.cells (ccA y a7 c7) 49)) a7 y.likes):=Z7.out.below LikC.holds ((Below.refl _ _).alloc nL _) nL;clear HB HRA Z7;generalize wr.alloc (Obj.cells (ccA y a7 c7) 49)=w4 at *;have OA:=iH (Af O1 HB4 hm1);have OB:=iH (Af O2 HB4 hm2);have PA:Hid (w4.cell? ⟨p,4,none⟩=some (.map (some m1))):=(HB4.out.cell (p:=⟨p,4,none⟩) hpl).trans P4;have PB:Hid (w4.cell? ⟨p,5,none⟩=some (.map (some m2))):=(HB4.out.cell (p:=⟨p,5,none⟩) hpl).trans P5;refine wp_region_held_drew (S:=fun wy=>wy.rangeAt wr.heap.size 0 (ccL y a7 c7)∧wy.cell? ⟨p,5,none⟩=some (.map (some m2))∧wy.ownsMap Tryz.prog 9 (plainElem Tryz.prog 3) m2 x.services.length (Ai (x.services.map (·.name)) x.services.length)) (by kernel_rfl) ⟨Ce HG,by simpa using PB.out,OB.out.drew⟩ (fun hS=>?_);refine ty 0 ⟨some 20,_,_,_,_,none⟩ (.pointer (some ⟨p,0,none⟩)) rfl (by rfl) ?_ hS ?_
   ·intro wy hy
    obtain ⟨yr,yc,yo⟩:=hy;have y1:wy.cell? ⟨wr.heap.size,1,none⟩=some (.string y.service):=yr 1 _ rfl;have yl:=Aw (s:=y.service) yo Z1;clear yr yo;go_simp
   simp only [pX];refine ty 1 ⟨some 21,_,_,_,_,none⟩ (.pointer (some ⟨p,0,none⟩)) rfl (by rfl) ?_ hS ?_
   ·intro wy hy
    obtain ⟨yr,yc,yo⟩:=hy;have y1:wy.cell? ⟨wr.heap.size,1,none⟩=some (.string y.service):=yr 1 _ rfl;have yl:=Aw (s:=y.service) yo Z1;clear yr yo;go_simp
   simp only [pX];refine ty 2 ⟨some 22,_,_,_,_,none⟩ (.pointer (some ⟨p,5,none⟩)) rfl (by rfl) ?_ hS ?_
   ·intro wy hy
    obtain ⟨yr,yc,yo⟩:=hy;have y1:wy.cell? ⟨wr.heap.size,1,none⟩=some (.string y.service):=yr 1 _ rfl;have yl:=Aw (s:=y.service) yo Z1;clear yr yo;go_simp
   simp only [pX];refine ty 3 ⟨some 23,_,_,_,_,none⟩ (.map (some m2)) rfl (by rfl) ?_ hS ?_
   ·intro wy hy
    obtain ⟨yr,yc,yo⟩:=hy;have y1:wy.cell? ⟨wr.heap.size,1,none⟩=some (.string y.service):=yr 1 _ rfl;have yl:=Aw (s:=y.service) yo Z1;clear yr yo;go_simp
   simp only [pX];refine ty 4 ⟨some 24,_,_,_,_,none⟩ (.pointer (some ⟨wr.heap.size,1,none⟩)) rfl (by rfl) ?_ hS ?_
   ·intro wy hy
    obtain ⟨yr,yc,yo⟩:=hy;have y1:wy.cell? ⟨wr.heap.size,1,none⟩=some (.string y.service):=yr 1 _ rfl;have yl:=Aw (s:=y.service) yo Z1;clear yr yo;go_simp
   simp only [pX];refine ty 5 ⟨some 25,_,_,_,_,none⟩ (.string y.service) rfl (by rfl) ?_ hS ?_
   ·intro wy hy
    obtain ⟨yr,yc,yo⟩:=hy;have y1:wy.cell? ⟨wr.heap.size,1,none⟩=some (.string y.service):=yr 1 _ rfl;have yl:=Aw (s:=y.service) yo Z1;clear yr yo;go_simp
   simp only [pX];refine ty 6 ⟨some 26,_,_,_,_,none⟩ (.tuple #[.int .i64 (((Am (x.services.map (·.name)) y.service x.services.length).getD 0:Nat):Int),.bool (Am (x.services.map (·.name)) y.service x.services.length).isSome]) rfl (by rfl) ?_ hS ?_
   ·intro wy hy
    obtain ⟨yr,yc,yo⟩:=hy;have y1:wy.cell? ⟨wr.heap.size,1,none⟩=some (.string y.service):=yr 1 _ rfl;have yl:=Aw (s:=y.service) yo Z1;clear yr yo;go_simp
   simp only [pX];refine ty 7 ⟨some 19,_,_,_,_,none⟩ (.tuple #[.int .i64 (((Am (x.services.map (·.name)) y.service x.services.length).getD 0:Nat):Int),.bool (Am (x.services.map (·.name)) y.service x.services.length).isSome]) rfl (by rfl) ?_ hS ?_
   ·intro wy hy
    obtain ⟨yr,yc,yo⟩:=hy;have y1:wy.cell? ⟨wr.heap.size,1,none⟩=some (.string y.service):=yr 1 _ rfl;have yl:=Aw (s:=y.service) yo Z1;clear yr yo;go_simp
   simp only [pX];refine ty 8 ⟨some 27,_,_,_,_,none⟩ (.int .i64 (((Am (x.services.map (·.name)) y.service x.services.length).getD 0:Nat):Int)) rfl (by rfl) ?_ hS ?_
   ·intro wy hy
    obtain ⟨yr,yc,yo⟩:=hy;have y1:wy.cell? ⟨wr.heap.size,1,none⟩=some (.string y.service):=yr 1 _ rfl;have yl:=Aw (s:=y.service) yo Z1;clear yr yo;go_simp
   simp only [pX];refine ty 9 ⟨some 28,_,_,_,_,none⟩ (.bool (Am (x.services.map (·.name)) y.service x.services.length).isSome) rfl (by rfl) ?_ hS ?_
   ·intro wy hy
    obtain ⟨yr,yc,yo⟩:=hy;have y1:wy.cell? ⟨wr.heap.size,1,none⟩=some (.string y.service):=yr 1 _ rfl;have yl:=Aw (s:=y.service) yo Z1;clear yr yo;go_simp
   simp only [pX];refine ty 10 ⟨some 5,_,_,_,_,none⟩ (.int .i64 (((Am (x.services.map (·.name)) y.service x.services.length).getD 0:Nat):Int)) rfl (by rfl) ?_ hS ?_
   ·intro wy hy
    obtain ⟨yr,yc,yo⟩:=hy;have y1:wy.cell? ⟨wr.heap.size,1,none⟩=some (.string y.service):=yr 1 _ rfl;have yl:=Aw (s:=y.service) yo Z1;clear yr yo;go_simp
   simp only [pX];refine ty 11 ⟨some 6,_,_,_,_,none⟩ (.bool (Am (x.services.map (·.name)) y.service x.services.length).isSome) rfl (by rfl) ?_ hS ?_
   ·intro wy hy
    obtain ⟨yr,yc,yo⟩:=hy;have y1:wy.cell? ⟨wr.heap.size,1,none⟩=some (.string y.service):=yr 1 _ rfl;have yl:=Aw (s:=y.service) yo Z1;clear yr yo;go_simp
   simp only [pX];refine td ?_;have HG5:Hid (w4.drew.rangeAt wr.heap.size 0 (ccL y a7 c7)):=Ce HG;have HB5:Hid (Below w.heap.size w w4.drew):=HB4.out.drew;have HS5:Hid (wr.heap.size<w4.drew.heap.size):=HS4.out;have Z75:Hid (SliceC LikC 2 lo w4.drew a7 y.likes):=Z74.out.below LikC.holds (B:=w4.heap.size) (Below.refl _ _).drew nL;have OA5:=iH OA.out.drew;have PA5:Hid (w4.drew.cell? ⟨p,4,none⟩=some (.map (some m1))):=by show _=_;simpa using PA.out
   clear HG HB4 HS4 Z74 OA OB PA PB;generalize w4.drew=w5 at *;have HG:=HG5;clear HG5;go_upto_region 5 with fail;refine wp_region_held_drew (S:=fun wy=>wy.rangeAt wr.heap.size 0 (ccL y a7 c7)∧wy.cell? ⟨p,4,none⟩=some (.map (some m1))∧wy.ownsMap Tryz.prog 9 (plainElem Tryz.prog 3) m1 x.berths.length (Ai (x.berths.map (·.name)) x.berths.length)) (by kernel_rfl) ⟨Ce HG,by simpa using PA5.out,OA5.out.drew⟩ (fun hS=>?_);refine ty 0 ⟨some 30,_,_,_,_,none⟩ (.pointer (some ⟨p,0,none⟩)) rfl (by rfl) ?_ hS ?_
   ·intro wy hy
    obtain ⟨yr,yc,yo⟩:=hy;have y11:wy.cell? ⟨wr.heap.size,11,none⟩=some (.string y.at_):=yr 11 _ rfl;have yl:=Aw (s:=y.at_) yo Z11;clear yr yo;go_simp
   simp only [pX];refine ty 1 ⟨some 31,_,_,_,_,none⟩ (.pointer (some ⟨p,0,none⟩)) rfl (by rfl) ?_ hS ?_
   ·intro wy hy
    obtain ⟨yr,yc,yo⟩:=hy;have y11:wy.cell? ⟨wr.heap.size,11,none⟩=some (.string y.at_):=yr 11 _ rfl;have yl:=Aw (s:=y.at_) yo Z11;clear yr yo;go_simp
   simp only [pX];refine ty 2 ⟨some 32,_,_,_,_,none⟩ (.pointer (some ⟨p,4,none⟩)) rfl (by rfl) ?_ hS ?_
   ·intro wy hy
    obtain ⟨yr,yc,yo⟩:=hy;have y11:wy.cell? ⟨wr.heap.size,11,none⟩=some (.string y.at_):=yr 11 _ rfl;have yl:=Aw (s:=y.at_) yo Z11;clear yr yo;go_simp
   simp only [pX];refine ty 3 ⟨some 33,_,_,_,_,none⟩ (.map (some m1)) rfl (by rfl) ?_ hS ?_
   ·intro wy hy
    obtain ⟨yr,yc,yo⟩:=hy;have y11:wy.cell? ⟨wr.heap.size,11,none⟩=some (.string y.at_):=yr 11 _ rfl;have yl:=Aw (s:=y.at_) yo Z11;clear yr yo;go_simp
   simp only [pX];refine ty 4 ⟨some 34,_,_,_,_,none⟩ (.pointer (some ⟨wr.heap.size,11,none⟩)) rfl (by rfl) ?_ hS ?_
   ·intro wy hy
    obtain ⟨yr,yc,yo⟩:=hy;have y11:wy.cell? ⟨wr.heap.size,11,none⟩=some (.string y.at_):=yr 11 _ rfl;have yl:=Aw (s:=y.at_) yo Z11;clear yr yo;go_simp
   simp only [pX];refine ty 5 ⟨some 35,_,_,_,_,none⟩ (.string y.at_) rfl (by rfl) ?_ hS ?_
   ·intro wy hy
    obtain ⟨yr,yc,yo⟩:=hy;have y11:wy.cell? ⟨wr.heap.size,11,none⟩=some (.string y.at_):=yr 11 _ rfl;have yl:=Aw (s:=y.at_) yo Z11;clear yr yo;go_simp
   simp only [pX];refine ty 6 ⟨some 36,_,_,_,_,none⟩ (.tuple #[.int .i64 (((Am (x.berths.map (·.name)) y.at_ x.berths.length).getD 0:Nat):Int),.bool (Am (x.berths.map (·.name)) y.at_ x.berths.length).isSome]) rfl (by rfl) ?_ hS ?_
   ·intro wy hy
    obtain ⟨yr,yc,yo⟩:=hy;have y11:wy.cell? ⟨wr.heap.size,11,none⟩=some (.string y.at_):=yr 11 _ rfl;have yl:=Aw (s:=y.at_) yo Z11;clear yr yo;go_simp
   simp only [pX];refine ty 7 ⟨some 29,_,_,_,_,none⟩ (.tuple #[.int .i64 (((Am (x.berths.map (·.name)) y.at_ x.berths.length).getD 0:Nat):Int),.bool (Am (x.berths.map (·.name)) y.at_ x.berths.length).isSome]) rfl (by rfl) ?_ hS ?_
   ·intro wy hy
    obtain ⟨yr,yc,yo⟩:=hy;have y11:wy.cell? ⟨wr.heap.size,11,none⟩=some (.string y.at_):=yr 11 _ rfl;have yl:=Aw (s:=y.at_) yo Z11;clear yr yo;go_simp
   simp only [pX];refine ty 8 ⟨some 37,_,_,_,_,none⟩ (.int .i64 (((Am (x.berths.map (·.name)) y.at_ x.berths.length).getD 0:Nat):Int)) rfl (by rfl) ?_ hS ?_
   ·intro wy hy
    obtain ⟨yr,yc,yo⟩:=hy;have y11:wy.cell? ⟨wr.heap.size,11,none⟩=some (.string y.at_):=yr 11 _ rfl;have yl:=Aw (s:=y.at_) yo Z11;clear yr yo;go_simp
   simp only [pX];refine ty 9 ⟨some 38,_,_,_,_,none⟩ (.bool (Am (x.berths.map (·.name)) y.at_ x.berths.length).isSome) rfl (by rfl) ?_ hS ?_
   ·intro wy hy
    obtain ⟨yr,yc,yo⟩:=hy;have y11:wy.cell? ⟨wr.heap.size,11,none⟩=some (.string y.at_):=yr 11 _ rfl;have yl:=Aw (s:=y.at_) yo Z11;clear yr yo;go_simp
   simp only [pX];refine ty 10 ⟨some 7,_,_,_,_,none⟩ (.int .i64 (((Am (x.berths.map (·.name)) y.at_ x.berths.length).getD 0:Nat):Int)) rfl (by rfl) ?_ hS ?_
   ·intro wy hy
    obtain ⟨yr,yc,yo⟩:=hy;have y11:wy.cell? ⟨wr.heap.size,11,none⟩=some (.string y.at_):=yr 11 _ rfl;have yl:=Aw (s:=y.at_) yo Z11;clear yr yo;go_simp
   simp only [pX];refine ty 11 ⟨some 8,_,_,_,_,none⟩ (.bool (Am (x.berths.map (·.name)) y.at_ x.berths.length).isSome) rfl (by rfl) ?_ hS ?_
   ·intro wy hy
    obtain ⟨yr,yc,yo⟩:=hy;have y11:wy.cell? ⟨wr.heap.size,11,none⟩=some (.string y.at_):=yr 11 _ rfl;have yl:=Aw (s:=y.at_) yo Z11;clear yr yo;go_simp
   simp only [pX];refine td ?_;have HG5:Hid (w5.drew.rangeAt wr.heap.size 0 (ccL y a7 c7)):=Ce HG;have HB6:Hid (Below w.heap.size w w5.drew):=HB5.out.drew;have Z76:Hid (SliceC LikC 2 lo w5.drew a7 y.likes):=Z75.out.below LikC.holds (B:=w5.heap.size) (Below.refl _ _).drew nL;clear HG HB5 HS5 Z75 OA5 PA5;generalize w5.drew=w6 at *;have HSA:Hid (Hs x y=((Am (x.services.map (·.name)) y.service x.services.length).isSome && ((Am (x.berths.map (·.name)) y.at_ x.berths.length).isSome || decide (y.at_.size=0)) && Cp y)):=rfl;have bad:Hid (Hs x y=false→Bw x=false):=fun h=>List.all_eq_false.mpr ⟨y,List.mem_of_getElem? HX,by simp [h]⟩
   generalize (Am (x.services.map (·.name)) y.service x.services.length).isSome=B1 at *;generalize (Am (x.berths.map (·.name)) y.at_ x.berths.length).isSome=B2 at *;generalize (((Am (x.services.map (·.name)) y.service x.services.length).getD 0:Nat):Int)=I1 at *;generalize (((Am (x.berths.map (·.name)) y.at_ x.berths.length).getD 0:Nat):Int)=I2 at *;have e0:w6.cell? ⟨wr.heap.size,0,none⟩=some (.string y.name):=HG5.out 0 _ rfl;have e1:w6.cell? ⟨wr.heap.size,1,none⟩=some (.string y.service):=HG5.out 1 _ rfl;have e2:w6.cell? ⟨wr.heap.size,2,none⟩=some (.int .i64 y.rank):=HG5.out 2 _ rfl;have e3:w6.cell? ⟨wr.heap.size,3,none⟩=some (.int .i64 y.born):=HG5.out 3 _ rfl;have e4:w6.cell? ⟨wr.heap.size,4,none⟩=some (.int .i64 y.room):=HG5.out 4 _ rfl;have e5:w6.cell? ⟨wr.heap.size,5,none⟩=some (.int .i64 y.hold):=HG5.out 5 _ rfl;have e6:w6.cell? ⟨wr.heap.size,6,none⟩=some (.string y.select):=HG5.out 6 _ rfl;have e7:w6.cell? ⟨wr.heap.size,7,none⟩=some (.slice a7 y.likes.length c7):=HG5.out 7 _ rfl;have e8:w6.cell? ⟨wr.heap.size,8,none⟩=some (.int .i64 y.apart):=HG5.out 8 _ rfl;have e9:w6.cell? ⟨wr.heap.size,9,none⟩=some (.string y.near):=HG5.out 9 _ rfl;have e10:w6.cell? ⟨wr.heap.size,10,none⟩=some (.string y.fixed):=HG5.out 10 _ rfl;have e11:w6.cell? ⟨wr.heap.size,11,none⟩=some (.string y.at_):=HG5.out 11 _ rfl;cases B1
   ·have HC:Hid (Bw x=false):=bad.out (by rw [HSA.out];rfl)
    clear ho bad HSA;go_wp2_with fail;go_ret;exact ⟨Ab HC.out.symm,HB6⟩
   ·cases B2
    ·by_cases he:y.at_=⟨#[]⟩
     ·have hsz:Hid (y.at_.size=0):=by show _=_;rw [he];rfl
      have hte:y.at_.toList=[]:=by rw [he];simp
      clear he;go_wp2_with fail;refine (Ur y a7 c7 lo _ Z6 Z76 Z9 Z10).mono ?_;rintro e w7 ⟨rfl,hb7⟩;have HB7:=qTH HB6 hb7;clear hb7 HB6 e0 e1 e2 e3 e4 e5 e6 e7 e8 e9 e10 e11;cases hcp:Cp y
      ·have HC:Hid (Bw x=false):=bad.out (by rw [HSA.out];simp [hcp])
       clear ho bad HSA hcp;go_wp2_with fail;go_ret;exact ⟨Ab HC.out.symm,HB7⟩
      ·have HO:Hid (∀ j z,j<k+1→x.copies[j]?=some z→Hs x z=true):=by
        intro j z hj hz;by_cases e:j=k
        ·subst e
         rw [HX.out] at hz;cases hz
         rw [HSA.out];simp [hcp,hsz.out]
        ·exact ho.out j z (by omega) hz
       clear ho bad HSA hcp;go_wp2_with fail;go_roundw
       case rel=>exact ⟨k+1,by omega,by go_num,HO,HB7⟩
       case measure=>simp [intOf];omega
     ·have hsz:¬ y.at_.size=0:=fun e=>he (ByteArray.ext (Array.eq_empty_of_size_eq_zero e))
      have hte:¬ y.at_.toList=[]:=by
       rw [ByteArray.toList_eq];exact fun e=>hsz (by have:=congrArg List.length e;simpa using this)
      have HC:Hid (Bw x=false):=bad.out (by rw [HSA.out];simp [hsz]);clear ho bad HSA he hsz;go_wp2_with fail;go_ret;exact ⟨Ab HC.out.symm,HB6⟩
    ·go_wp2_with fail
     refine (Ur y a7 c7 lo _ Z6 Z76 Z9 Z10).mono ?_;rintro e w7 ⟨rfl,hb7⟩;have HB7:=qTH HB6 hb7;clear hb7 HB6 e0 e1 e2 e3 e4 e5 e6 e7 e8 e9 e10 e11;cases hcp:Cp y
     ·have HC:Hid (Bw x=false):=bad.out (by rw [HSA.out];simp [hcp])
      clear ho bad HSA hcp;go_wp2_with fail;go_ret;exact ⟨Ab HC.out.symm,HB7⟩
     ·have HO:Hid (∀ j z,j<k+1→x.copies[j]?=some z→Hs x z=true):=by
       intro j z hj hz;by_cases e:j=k
       ·subst e
        rw [HX.out] at hz;cases hz
        rw [HSA.out];simp [hcp]
       ·exact ho.out j z (by omega) hz
      clear ho bad HSA hcp;go_wp2_with fail;go_roundw
      case rel=>exact ⟨k+1,by omega,by go_num,HO,HB7⟩
      case measure=>simp [intOf];omega
  ·have hke:k=x.copies.length:=by omega
   subst hke;have HC:Hid (Bw x=true):=by
    show _=_
    simp only [Bw,List.all_eq_true];intro y hy;obtain ⟨j,hj,e⟩:=List.mem_iff_getElem.mp hy;exact ho.out j y hj (by rw [gE hj,e])
   clear ho;go_wp2_with fail;go_ret;exact ⟨Ab HC.out.symm,hbel⟩
theorem Qp (xs:List Brt) (a:OA) (cap lo:Nat) (w:World) (hin:SliceC BrtC 6 lo w a xs) (hsm:xs.length≤1048576) :
  Calls Tryz.prog 99 #[.slice a xs.length cap,.func (.func 100) #[] #[]] w fun e w'=>∃ m,e=.returned (.map (some m))∧w'.ownsMap Tryz.prog 9 (plainElem Tryz.prog 3) m xs.length (Ai (xs.map (·.name)) xs.length)∧Below w.heap.size w w':=by
 refine (Xl xs a cap lo w hin hsm).mono ?_;rintro e w' ⟨rfl,h1,h2⟩;exact ⟨_,rfl,h1,h2⟩
theorem Lc (xs:List Svc) (a:OA) (cap lo:Nat) (w:World) (hin:SliceC SvcC 2 lo w a xs) (hsm:xs.length≤1048576) :
  Calls Tryz.prog 101 #[.slice a xs.length cap,.func (.func 102) #[] #[]] w fun e w'=>∃ m,e=.returned (.map (some m))∧w'.ownsMap Tryz.prog 9 (plainElem Tryz.prog 3) m xs.length (Ai (xs.map (·.name)) xs.length)∧Below w.heap.size w w':=by
 refine (Xr xs a cap lo w hin hsm).mono ?_;rintro e w' ⟨rfl,h1,h2⟩;exact ⟨_,rfl,h1,h2⟩
theorem Hz (xs:List Cpy) (a:OA) (cap lo:Nat) (w:World) (hin:SliceC CpyC 12 lo w a xs) (hsm:xs.length≤1048576) :
  Calls Tryz.prog 103 #[.slice a xs.length cap,.func (.func 104) #[] #[]] w fun e w'=>∃ m,e=.returned (.map (some m))∧w'.ownsMap Tryz.prog 9 (plainElem Tryz.prog 3) m xs.length (Ai (xs.map (·.name)) xs.length)∧Below w.heap.size w w':=by
 refine (Xq xs a cap lo w hin hsm).mono ?_;rintro e w' ⟨rfl,h1,h2⟩;exact ⟨_,rfl,h1,h2⟩
theorem Hy {P:Program} {w:World} (t:TypeId):(Instr.makeMap t none).run P w=.ok (.map (some w.heap.size)) (w.alloc (.map #[] 0)):=rfl
def FltIn (b:Nat) (x:Flt) (a1:OA) (c1:Nat) (a2:OA) (c2:Nat) (a3:OA) (c3:Nat) (w:World):Prop :=
 w.cell? ⟨b,0,none⟩=some (.bool x.pack)∧w.cell? ⟨b,1,none⟩=some (.slice a1 x.berths.length c1)∧w.cell? ⟨b,2,none⟩=some (.slice a2 x.services.length c2)∧w.cell? ⟨b,3,none⟩=some (.slice a3 x.copies.length c3)
theorem FltIn.below {b:Nat} {x:Flt} {a1:OA} {c1:Nat} {a2:OA} {c2:Nat} {a3:OA} {c3:Nat} {w w':World} {B:Nat} (h:FltIn b x a1 c1 a2 c2 a3 c3 w) (hb:Below B w w') (hB:b<B):FltIn b x a1 c1 a2 c2 a3 c3 w' :=
 ⟨(hb.cell (p:=⟨b,0,none⟩) hB).trans h.1,(hb.cell (p:=⟨b,1,none⟩) hB).trans h.2.1,(hb.cell (p:=⟨b,2,none⟩) hB).trans h.2.2.1,(hb.cell (p:=⟨b,3,none⟩) hB).trans h.2.2.2⟩
def Au (x:Flt):Bool:=Dt x && (Fd x && (Ci x.berths && (Fr x.services && (Bw x && Dk x.berths x.copies))))
theorem jP (w:World) :
  Calls Tryz.prog 76 #[] w fun e w'=>∃ g,e=.returned (.slice (some ⟨g,0,none⟩) 6 6) ∧
   w'.rangeAt g 0 [.func (.func 105) #[] #[],.func (.func 106) #[] #[],.func (.func 107) #[] #[],.func (.func 108) #[] #[],.func (.func 109) #[] #[],.func (.func 110) #[] #[]]∧g<w'.heap.size∧Below w.heap.size w w':=by
 go_enter Tryz.func76,Tryz.ntmps76;go_wp2_with fail;go_ret;refine ⟨_,rfl,?_,?_,?_⟩
 ·exact Aa (by simp) (Aa (by simp) (Aa (by simp) (Aa (by simp) (Aa (by simp) (Aa (by simp) (Ao _ _ _))))))
 ·simp
 ·go_grown
end Go.Proofs.YtpidfnfilnkhkaaGreat
namespace Go.Proofs.YtpidfnfilnkhkaaGreat
open Go.RowKit
theorem hE {s:BA} {k:Nat} (hlt:k<s.size) (h:s[k].toNat=61) (hn:∀ j,j<k→s.data.toList[j]?≠some 61):Cj s=k:=by
 have hk:s.data.toList[k]?=some 61:=by
  rw [gE (by simpa using hlt)]
  congr 1
  exact UInt8.toNat_inj.1 h
 by_cases hz:Cj s=-1
 ·exact absurd hk (Lib.indexByte_none hz k)
 ·obtain ⟨o,ho⟩:∃ o:Nat,Cj s=o:=⟨(Cj s).toNat,by have:=Vp s;omega⟩
  have h2:=Lib.indexByte_some ho;rcases Nat.lt_trichotomy o k with h3 | h3 | h3
  ·exact absurd h2.1 (hn o h3)
  ·rw [ho,h3]
  ·exact absurd hk (h2.2 k h3)
theorem eA {s:BA} (hn:∀ j,j<s.size→s.data.toList[j]?≠some 61):Cj s=-1:=by
 by_cases hz:Cj s=-1
 ·exact hz
 ·obtain ⟨o,ho⟩:∃ o:Nat,Cj s=o:=⟨(Cj s).toNat,by have:=Vp s;omega⟩
  exact absurd (Lib.indexByte_some ho).1 (hn o (Ui ho))
theorem Nw (s:BA) (w:World) (hs:s.size≤maxLen) :
  Calls Tryz.prog 92 #[.string s] w (Rt (.tuple #[.string (Ar s),.string (Fz s),.bool (Ei s)]) w):=by
 have HS:=iH hs;unfold maxLen at hs;go_enter Tryz.func92,Tryz.ntmps92;go_wp2_with fail;go_loopw [5] (fun i wr=>∃ k:Nat,k≤s.size∧i=.int .i64 k∧Hid (∀ j,j<k→s.data.toList[j]?≠some 61)∧Below w.heap.size w wr) (fun i _=>s.size - (intOf i).toNat)
 case atStart=>exact ⟨0,zL,rfl,fun j h=>absurd h (Nat.not_lt_zero _),Below.refl _ _⟩
 case round =>
  obtain ⟨k,hk,rfl,hn,hbel⟩:=hrel;by_cases hlt:k<s.size
  ·by_cases hb:s[k].toNat=61
   ·have HE:Hid (Cj s=k):=hE hlt hb hn.out
    have HN:Hid (¬ Cj s<0):=by have:=HE.out;show ¬ _;omega
    have hbq:((s[k].toNat:Int) == 61)=true:=by simp;omega
    have HB:=iH hbel;have HNm:Hid (Ar s=s.extract 0 k):=by show _=_;unfold Ar;rw [if_neg HN.out,HE.out];rfl
    obtain ⟨n1,hn1⟩:∃ n1:Nat,n1=k+1:=⟨_,rfl⟩;have HVl:Hid (Fz s=s.extract n1 s.size):=by show _=_;unfold Fz;rw [if_neg HN.out,HE.out,hn1];rfl
    have HMk:Hid (Ei s=(P.nameOk (s.extract 0 k) && P.nameOk (s.extract n1 s.size))):=by show _=_;unfold Ei;rw [decide_eq_false HN.out,Bool.false_or,HNm.out,HVl.out]
    have i0:(0:Int)≤(k:Int):=by omega
    have i1:(k:Int)≤(s.size:Int):=by omega
    have i2:(n1:Int)≤(s.size:Int):=by omega
    have i3:(0:Int)≤(n1:Int):=by omega
    have HW:Hid (IntKind.i64.wrap ((k:Int)+1)=(n1:Int)):=by show _=_;rw [IntKind.wrap_i64];omega
    have Z1:Hid ((s.extract 0 k).size≤maxLen):=by have:=Lk HS;rw [HNm.out] at this;exact this
    have Z2:Hid ((s.extract n1 s.size).size≤maxLen):=by have:=Ya HS;rw [HVl.out] at this;exact this
    clear hn hbel hn1;go_upto_region 5 with fail;generalize hX:P.nameOk (s.extract 0 k)=X at *;generalize hY:P.nameOk (s.extract n1 s.size)=Y at *;have cN:∀ d os,Calls Tryz.prog 37 #[.string (s.extract 0 k)] (Sort.grow (redrawn wr d) os) fun e w''=>e=.returned (.bool X)∧∃ p:Regrown,w''=Sort.grow (redrawn wr p.d) p.os:=fun d os=>by
     refine (Bi _ _ Z1).mono ?_;rintro e w' ⟨rfl,rfl⟩;exact ⟨by rw [hX],⟨d,os⟩,rfl⟩
    have cV:∀ d os,Calls Tryz.prog 37 #[.string (s.extract n1 s.size)] (Sort.grow (redrawn wr d) os) fun e w''=>e=.returned (.bool Y)∧∃ p:Regrown,w''=Sort.grow (redrawn wr p.d) p.os:=fun d os=>by
     refine (Bi _ _ Z2).mono ?_;rintro e w' ⟨rfl,rfl⟩;exact ⟨by rw [hY],⟨d,os⟩,rfl⟩
    clear hX hY
    cases X with
    | false =>
     refine wp_region_quiet_below (by kernel_rfl) (by kernel_rfl) ?_
     repeat (quiet_step (first | (go_at_call_has 37 (s.extract 0 k);exact cN _ _) | (go_at_call_has 37 (s.extract n1 s.size);exact cV _ _)))
     rw [HW.out]
     repeat (quiet_step (first | (go_at_call_has 37 (s.extract 0 k);exact cN _ _) | (go_at_call_has 37 (s.extract n1 s.size);exact cV _ _)))
     refine wpQuiet_nil ?_;intro w5 hw';obtain ⟨⟨dq,osq⟩,hw''⟩:=hw';have hB:=below_regrown wr dq osq;simp only [] at hw'';rw [← hw''] at hB;clear hw'' cN cV;have HB5:=qTH HB hB;clear hB;go_wp2_with fail
     go_ret3
     exact ⟨by rw [HNm.out,HVl.out,HMk.out];rfl,HB5⟩
    | true =>
     refine wp_region_quiet_below (by kernel_rfl) (by kernel_rfl) ?_
     repeat (quiet_step (first | (go_at_call_has 37 (s.extract 0 k);exact cN _ _) | (go_at_call_has 37 (s.extract n1 s.size);exact cV _ _)))
     rw [HW.out]
     repeat (quiet_step (first | (go_at_call_has 37 (s.extract 0 k);exact cN _ _) | (go_at_call_has 37 (s.extract n1 s.size);exact cV _ _)))
     rw [HW.out]
     repeat (quiet_step (first | (go_at_call_has 37 (s.extract 0 k);exact cN _ _) | (go_at_call_has 37 (s.extract n1 s.size);exact cV _ _)))
     refine wpQuiet_nil ?_;intro w5 hw';obtain ⟨⟨dq,osq⟩,hw''⟩:=hw';have hB:=below_regrown wr dq osq;simp only [] at hw'';rw [← hw''] at hB;clear hw'' cN cV;have HB5:=qTH HB hB;clear hB;go_wp2_with fail
     go_ret3
     exact ⟨by rw [HNm.out,HVl.out,HMk.out];rfl,HB5⟩
   ·have hbq:((s[k].toNat:Int) == 61)=false:=by simp;omega
    have HN:Hid (∀ j,j<k+1→s.data.toList[j]?≠some 61):=by
     intro j hj e;by_cases hjk:j=k
     ·subst hjk
      rw [gE (by simpa using hlt)] at e;injection e with e;exact hb (by rw [show s[j]=(61:UInt8) from e];rfl)
     ·exact hn.out j (by omega) e
    clear hn hb;go_wp2_with fail;go_roundw
    case rel=>exact ⟨k+1,by omega,by go_num,HN,hbel⟩
    case measure=>simp [intOf];omega
  ·have hke:k=s.size:=by omega
   have HE:Hid (Cj s<0):=by have:=eA (s:=s) (fun j hj=>hn.out j (by omega));show _<_;omega
   have HNm:Hid (Ar s=s):=by show _=_;unfold Ar;rw [if_pos HE.out]
   have HVl:Hid (Fz s=⟨#[]⟩):=by show _=_;unfold Fz;rw [if_pos HE.out]
   have HMk:Hid (Ei s=P.nameOk s):=by show _=_;unfold Ei;rw [decide_eq_true HE.out,Bool.true_or,Bool.and_true,HNm.out]
   have HB:=iH hbel;clear hn hbel;subst hke;go_wp2_with fail;refine (Bi s _ HS).mono ?_;rintro e w' ⟨rfl,rfl⟩;generalize P.nameOk s=X at *;go_wp2_with fail
   go_ret3
   exact ⟨by rw [HNm.out,HVl.out,HMk.out];rfl,HB⟩
def Df (ms:List BA) (nm:BA):Nat→Bool
 | 0=>true
 | j+1=>Df ms nm j && (match ms[j]? with
  | some t=>!decide (Ar t=nm)
  | none=>true)
def Mg (ms:List BA):Nat→Bool
 | 0=>match ms[0]? with
  | none=>true
  | some m=>Ei m
 | j+1=>match ms[j+1]?,ms[j]? with
  | some m,some t=>Ei m && Op.bytesLess t.toList m.toList && !decide (Ar m=Ar t) && Df ms (Ar m) (j+1)
  | _,_=>true
def Qt (ms:List BA):Nat→Bool
 | 0=>true
 | k+1=>Qt ms k && Mg ms k
def Pc (ms:List BA):Bool:=decide (ms.length≤10) && Qt ms ms.length
theorem Wx {ms:List BA} {k:Nat} (h:Mg ms k=false):∀ n,k<n→Qt ms n=false
 | 0,hn=>absurd hn (Nat.not_lt_zero _)
 | n+1,hn=>by
  by_cases e:k=n
  ·subst e;simp only [Qt,h,Bool.and_false]
  ·simp only [Qt,Wx h n (by omega),Bool.false_and]
theorem Vl {ms:List BA} {k:Nat} (h:Mg ms k=false) (hk:k<ms.length):Pc ms=false:=by
 simp only [Pc,Wx h _ hk,Bool.and_false]
theorem pM {ms:List BA} {k:Nat} (h:Qt ms k=true) (h':Mg ms k=true):Qt ms (k+1)=true:=by
 simp only [Qt,h,h',Bool.and_self]
theorem Sq {ms:List BA} {nm:BA} {q:Nat} {t:BA} (h:ms[q]?=some t) (h':Ar t=nm):∀ n,q<n→Df ms nm n=false
 | 0,hn=>absurd hn (Nat.not_lt_zero _)
 | n+1,hn=>by
  by_cases e:q=n
  ·subst e;simp only [Df,h,h',decide_true,Bool.not_true,Bool.and_false]
  ·simp only [Df,Sq h h' n (by omega),Bool.false_and]
theorem lA {ms:List BA} {nm:BA} {q:Nat} {t:BA} (h:Df ms nm q=true) (ht:ms[q]?=some t) (h':¬ Ar t=nm):Df ms nm (q+1)=true:=by
 simp only [Df,h,ht,h',decide_false,Bool.not_false,Bool.and_self]
def Hw (ms:List BA) (k:Nat) (m L:BA):Bool :=
 !Ei m || (match k with
  | 0=>false
  | j+1=>match ms[j]? with
   | some t=>!Op.bytesLess t.toList m.toList || decide (Ar m=L)
   | none=>false)
theorem gJ {ms:List BA} {k:Nat} {m L:BA} (h:Ei m=false):Hw ms k m L=true:=by simp [Hw,h]
theorem Vz {ms:List BA} {m L:BA} (h:Ei m=true):Hw ms 0 m L=false:=by simp [Hw,h]
theorem Ox {ms:List BA} {j k:Nat} {m L t:BA} (h:Ei m=true) (hk:k=j+1) (ht:ms[j]?=some t):Hw ms k m L=(!Op.bytesLess t.toList m.toList || decide (Ar m=L)):=by
 subst hk;simp only [Hw,h,ht,Bool.not_true,Bool.false_or]
theorem Xp {ms:List BA} {k:Nat} {m L:BA} (hx:ms[k]?=some m) (hl:∀ j t,k=j+1→ms[j]?=some t→L=Ar t) (hlt:k<ms.length) (h1:Hw ms k m L=true):Mg ms k=false:=by
 cases k with
 | zero=>cases hi:Ei m with
  | false=>simp only [Mg,hx,hi]
  | true=>rw [Vz hi] at h1;cases h1
 | succ j =>
  obtain ⟨t,htt⟩:∃ t,ms[j]?=some t:=⟨ms[j],gE (by omega)⟩;have hlt':=hl j t rfl htt;subst hlt';simp only [Mg,hx,htt]
  cases hi:Ei m with
  | false=>simp
  | true =>
   rw [Ox hi rfl htt] at h1
   cases hbl:Op.bytesLess t.toList m.toList with
   | false=>simp
   | true =>
    rw [hbl] at h1;simp at h1;simp [h1]
theorem Us {ms:List BA} {k:Nat} {m L:BA} (hx:ms[k]?=some m) (hl:∀ j t,k=j+1→ms[j]?=some t→L=Ar t) (hlt:k<ms.length) (h1:Hw ms k m L=false) (hf:Df ms (Ar m) k=true):Mg ms k=true:=by
 cases hi:Ei m with
 | false=>rw [gJ hi] at h1;cases h1
 | true =>
 cases k with
 | zero=>simp only [Mg,hx,hi]
 | succ j =>
  obtain ⟨t,htt⟩:∃ t,ms[j]?=some t:=⟨ms[j],gE (by omega)⟩;have hlt':=hl j t rfl htt;subst hlt';rw [Ox hi rfl htt] at h1;simp only [Mg,hx,htt,hi,hf];simp at h1;simp [h1]
theorem Vv {ms:List BA} {k:Nat} {m:BA} (hx:ms[k]?=some m) (hlt:k<ms.length) (hf:Df ms (Ar m) k=false):Mg ms k=false:=by
 cases k with
 | zero=>simp [Df] at hf
 | succ j =>
  obtain ⟨t,htt⟩:∃ t,ms[j]?=some t:=⟨ms[j],gE (by omega)⟩;simp only [Mg,hx,htt,hf,Bool.and_false]
theorem aY (ms:List BA) (a:OA) (cap lo:Nat) (w:World) (hin:SliceC StrC 1 lo w a ms) :
  Calls Tryz.prog 68 #[.slice a ms.length cap] w (Rt (.bool (Pc ms)) w):=by
 have hlen:=hin.1;unfold maxLen at hlen;have HI:=iH hin;clear hin;by_cases h10:ms.length≤10
 ·have HM:Hid (Pc ms=Qt ms ms.length):=by show _=_;simp [Pc,h10]
  go_enter Tryz.func68,Tryz.ntmps68;go_wp2_with fail;go_loopw [3,4] (fun v i wr=>∃ (k:Nat) (L:BA),k≤ms.length∧i=.int .i64 k∧v=.string L∧Hid (Qt ms k=true)∧Hid (∀ j t,k=j+1→ms[j]?=some t→L=Ar t)∧Hid (Below w.heap.size w wr)) (fun _ i _=>ms.length - (intOf i).toNat)
  case atStart=>exact ⟨0,_,zL,rfl,rfl,rfl,fun j t h=>by omega,Below.refl _ _⟩
  case round =>
   obtain ⟨k,L,hk,rfl,rfl,ht,hL,hb⟩:=hrel;by_cases hlt:k<ms.length
   ·obtain ⟨m,hm⟩:=gXe hlt
    obtain ⟨b,o,rfl,_,_,hc⟩:=(HI.out.below StrC.holds hb.out nL).at hm;obtain ⟨q0,z0⟩:=hc;simp only [Nat.mul_one,Nat.add_zero] at q0;have HX:=iH hm;have HZ:=iH z0;clear hm z0;go_wp2_with fail;refine (Nw m _ HZ).mono ?_;rintro e w2 ⟨rfl,hb2⟩;have HB2:=qTH hb hb2;have HI2:=iH (HI.out.below StrC.holds HB2 nL);clear hb2 hb q0;generalize hnm:Ar m=nm at *;have HNM:=iH hnm;clear hnm;generalize Fz m=vl at *;go_upto_region 8 with fail
    go_cut [52] (fun c wx=>c=.bool (Hw ms k m L)∧Hid (Below w2.heap.size w2 wx))
    case first =>
     rcases Bool.eq_false_or_eq_true (Ei m) with hmk | hmk
     rotate_left
     ·have HR:Hid (Hw ms k m L=true):=by show _=_;exact gJ hmk
      clear hL ht HI2 HM;refine wp_region_quiet_below (by kernel_rfl) (by kernel_rfl) ?_
      repeat (go_big_quiet_step (fail))
      refine wpQuiet_nil ?_;intro w5 hw';obtain ⟨⟨dq,osq⟩,hw''⟩:=hw';have hB:=below_regrown w2 dq osq;simp only [] at hw'';rw [← hw''] at hB;clear hw'';go_wp2_with fail;go_meet;exact ⟨by rw [HR.out],hB⟩
     ·rcases Nat.eq_zero_or_pos k with hk0 | hk0
      ·subst hk0
       have HR:Hid (Hw ms 0 m L=false):=by show _=_;exact Vz hmk
       clear hL ht HI2 HM;refine wp_region_quiet_below (by kernel_rfl) (by kernel_rfl) ?_
       repeat (go_big_quiet_step (fail))
       refine wpQuiet_nil ?_;intro w5 hw';obtain ⟨⟨dq,osq⟩,hw''⟩:=hw';have hB:=below_regrown w2 dq osq;simp only [] at hw'';rw [← hw''] at hB;clear hw'';go_wp2_with fail;go_meet;exact ⟨by rw [HR.out],hB⟩
      ·obtain ⟨j,hj⟩:∃ j,k=j+1:=⟨k - 1,by omega⟩
       obtain ⟨t,htt⟩:∃ t,ms[j]?=some t:=⟨ms[j],gE (by omega)⟩;obtain ⟨b',o',hbo,_,_,hc'⟩:=HI2.out.at htt;cases hbo
       obtain ⟨q1,z1⟩:=hc';obtain ⟨b2,o2,hbo2,_,_,hc2⟩:=HI2.out.at HX;cases hbo2
       obtain ⟨q2,_⟩:=hc2;simp only [Nat.mul_one,Nat.add_zero] at q1 q2;have q1':w2.cell? ⟨b,o+(k - 1),none⟩=some (.string t):=by rw [show k - 1=j from by omega];exact q1
       have r1:=cell_regrown q1';have r2:=cell_regrown q2;have hjl:j<ms.length:=by omega
       have i0:(0:Int)≤(j:Int):=by omega
       have i1:(j:Int)<(ms.length:Int):=by omega
       have i2:(0:Int)<(k:Int):=by omega
       have i3:(0:Int)≤(k:Int):=by omega
       have i4:(k:Int)<(ms.length:Int):=by omega
       have HWJ:Hid (IntKind.i64.wrap ((k:Int) - 1)=(j:Int)):=by show _=_;rw [IntKind.wrap_i64];omega
       have HS:Hid (Hw ms k m L=(!Op.bytesLess t.toList m.toList || decide (nm=L))):=by show _=_;rw [Ox hmk hj htt,HNM.out]
       clear z1 q1 q2 hj q1' HWJ;rcases Bool.eq_false_or_eq_true (Op.bytesLess t.toList m.toList) with hless | hless
       rotate_left
       ·have HR:Hid (Hw ms k m L=true):=by show _=_;rw [HS.out,hless];rfl
        clear hL ht HI2 HM;refine wp_region_quiet_below (by kernel_rfl) (by kernel_rfl) ?_
        repeat (go_big_quiet_step (fail))
        refine wpQuiet_nil ?_;intro w5 hw';obtain ⟨⟨dq,osq⟩,hw''⟩:=hw';have hB:=below_regrown w2 dq osq;simp only [] at hw'';rw [← hw''] at hB;clear hw'';go_wp2_with fail;go_meet;exact ⟨by rw [HR.out],hB⟩
       ·by_cases hne:nm=L
        ·have hte:=Br hne
         have HR:Hid (Hw ms k m L=true):=by show _=_;rw [HS.out,hless,decide_eq_true hne];rfl
         clear hL ht HI2 HM;refine wp_region_quiet_below (by kernel_rfl) (by kernel_rfl) ?_
         repeat (go_big_quiet_step (fail))
         refine wpQuiet_nil ?_;intro w5 hw';obtain ⟨⟨dq,osq⟩,hw''⟩:=hw';have hB:=below_regrown w2 dq osq;simp only [] at hw'';rw [← hw''] at hB;clear hw'';go_wp2_with fail;go_meet;exact ⟨by rw [HR.out],hB⟩
        ·have hte:=Bz hne
         have HR:Hid (Hw ms k m L=false):=by show _=_;rw [HS.out,hless,decide_eq_false hne];rfl
         clear hL ht HI2 HM;refine wp_region_quiet_below (by kernel_rfl) (by kernel_rfl) ?_
         repeat (go_big_quiet_step (fail))
         refine wpQuiet_nil ?_;intro w5 hw';obtain ⟨⟨dq,osq⟩,hw''⟩:=hw';have hB:=below_regrown w2 dq osq;simp only [] at hw'';rw [← hw''] at hB;clear hw'';go_wp2_with fail;go_meet;exact ⟨by rw [HR.out],hB⟩
    case rest =>
     obtain ⟨rfl,hbc⟩:=hcut;have HB3:=iH (HB2.out.trans (hbc.out.mono HB2.out.size));clear hbc HB2
     cases hbd:Hw ms k m L with
     | true =>
      have HC:Hid (Pc ms=false):=Vl (k:=k) (Xp HX hL.out hlt hbd) hlt;clear hL ht hbd;go_wp2_with fail;go_ret;exact ⟨Ab HC.out.symm,HB3⟩
     | false =>
      have HA:Hid (Df ms nm k=true→Mg ms k=true):=fun hf=>Us HX hL.out hlt hbd (by rw [HNM.out];exact hf)
      have HF:Hid (Df ms nm k=false→Mg ms k=false):=fun hf=>Vv HX hlt (by rw [HNM.out];exact hf)
      clear hL hbd;go_wp2_with fail;obtain ⟨wo,hwo⟩:∃ wo,wo=wc:=⟨_,rfl⟩;subst hwo;go_loopw [8] (fun i wx=>∃ q:Nat,q≤k∧i=.int .i64 q∧Hid (Df ms nm q=true)∧Hid (Below w.heap.size w wx)) (fun i _=>k - (intOf i).toNat)
      case atStart=>exact ⟨0,zL,rfl,rfl,HB3⟩
      case round =>
       clear HB3;obtain ⟨q,hq,rfl,hfr,hbq⟩:=hrel;by_cases hql:q<k
       ·obtain ⟨t,htt⟩:∃ t,ms[q]?=some t:=⟨ms[q],gE (by omega)⟩
        obtain ⟨b',o',hbo,_,_,hc'⟩:=(HI.out.below StrC.holds hbq.out nL).at htt;cases hbo
        obtain ⟨q1,z1⟩:=hc';simp only [Nat.mul_one,Nat.add_zero] at q1;have HT:=iH htt;have HTZ:=iH z1;have hqm:q<ms.length:=by omega
        clear htt z1;go_wp2_with fail;refine (Nw t _ HTZ).mono ?_;rintro e w5 ⟨rfl,hb5⟩;have HB5:=qTH hbq hb5;clear hb5 hbq q1;by_cases hne:Ar t=nm
        ·have HC:Hid (Pc ms=false):=Vl (k:=k) (HF (Sq HT hne k hql)) hlt
         have hte:=Br hne;generalize Ar t=nt at *;generalize Fz t=vt at *;clear hne HA HF ht hfr;go_wp2_with fail;go_ret;exact ⟨Ab HC.out.symm,HB5⟩
        ·have HN:Hid (Df ms nm (q+1)=true):=lA hfr.out HT hne
         have hte:=Bz hne;generalize Ar t=nt at *;generalize Fz t=vt at *;clear hne hfr;go_wp2_with fail;go_roundw
         case rel=>exact ⟨q+1,by omega,by go_num,HN,HB5⟩
         case measure=>simp [intOf];omega
       ·have hqe:q=k:=by omega
        subst hqe;have HN:Hid (Qt ms (q+1)=true):=pM ht.out (HA hfr.out);have HLN:Hid (∀ j t,q+1=j+1→ms[j]?=some t→nm=Ar t):=by
         intro j t hj htt;have e:q=j:=Nat.succ.inj hj;subst e;rw [HX.out] at htt;cases htt
         exact HNM.out.symm
        clear hfr HA HF ht;go_wp2_with fail;go_roundw
        case rel=>exact ⟨q+1,nm,by omega,by go_num,rfl,HN,HLN,hbq⟩
        case measure=>simp [intOf];omega
   ·have hke:k=ms.length:=by omega
    subst hke;have HC:Hid (Pc ms=true):=by show _=_;rw [HM.out];exact ht.out
    clear ht;go_wp2_with fail;go_ret;exact ⟨Ab HC.out.symm,hb.out⟩
 ·have HM:Hid (Pc ms=false):=by show _=_;simp [Pc,h10]
  go_enter Tryz.func68,Tryz.ntmps68;go_wp2_with fail;go_ret;exact ⟨Ab HM.out.symm,by go_grown⟩
end Go.Proofs.YtpidfnfilnkhkaaGreat
