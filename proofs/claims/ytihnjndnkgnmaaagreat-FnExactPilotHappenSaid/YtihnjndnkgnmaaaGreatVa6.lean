import Derived.Test.YtihnjndnkgnmaaaGreatJ20
set_option maxHeartbeats 1000000
set_option maxRecDepth 100000
namespace Go.Proofs.YtihnjndnkgnmaaaGreat
open Go.RowKit Go.WideMaps Go.Maps
theorem Ar {ns:List BA} {m n l:Nat} {w:World} {s:BA} (h:w.ownsMap Tryz.prog 9 (plainElem Tryz.prog 3) m n (Aj ns l)) (hs:s.size≤maxLen) :
  (Instr.lookup 128 (.map (some m)) (.string s) true).run Tryz.prog w=.ok (.tuple #[.int .i64 (((Asq ns s l).getD 0:Nat):Int),.bool (Asq ns s l).isSome]) w:=by
 have hkey:keyOf Tryz.prog 9 (.string s)=some (kOf s):=keyOf_string_mk Tryz.underlying9 hs;obtain ⟨v,ps,hrun,hv⟩:=h.look_ok En Tryz.underlying128 (Gi w) (plainElem_int Tryz.underlying3 (a:=0) (by decide)) hkey;obtain ⟨c,rfl,hc,_⟩:=plainElem_int_inv Tryz.underlying3 hv;have h1:=congrArg Prod.fst hc;simp only at h1;have h3:=h1.symm.trans (Mv ns s l);have h5:c=(((Asq ns s l).getD 0:Nat):Int):=by simpa using h3
 rw [hrun,h5,Ku ns s l]
def Gp (x:Flt) (c:Cpy):Bool :=
 (Asq (x.services.map (·.name)) c.service x.services.length).isSome && ((Asq (x.berths.map (·.name)) c.at_ x.berths.length).isSome || decide (c.at_.size=0)) && Cd c
def Br (x:Flt):Bool:=x.copies.all (Gp x)
theorem Zp (p:Nat) (x:Flt) (a3:OA) (c3:Nat) (m1 m2:Nat) (lo:Nat) (w:World) (p3:w.cell? ⟨p,3,none⟩=some (.slice a3 x.copies.length c3)) (p4:w.cell? ⟨p,4,none⟩=some (.map (some m1))) (p5:w.cell? ⟨p,5,none⟩=some (.map (some m2)))
  (o1:w.ownsMap Tryz.prog 9 (plainElem Tryz.prog 3) m1 x.berths.length (Aj (x.berths.map (·.name)) x.berths.length)) (o2:w.ownsMap Tryz.prog 9 (plainElem Tryz.prog 3) m2 x.services.length (Aj (x.services.map (·.name)) x.services.length)) (n3:SliceC CpyC 12 lo w a3 x.copies) (l3:x.copies.length≤1048576) :
  Calls Tryz.prog 95 #[.pointer (some ⟨p,0,none⟩)] w (Rt (.bool (Br x)) w):=by
 have N3:=iH n3;have O1:=iH o1;have O2:=iH o2;have hpl:p<w.heap.size:=block_lt_of_cell p3;have hm1:m1<w.heap.size:=o1.lt;have hm2:m2<w.heap.size:=o2.lt;have P4:=iH p4;have P5:=iH p5;clear n3 o1 o2 p4 p5;go_enter Tryz.func95,Tryz.ntmps95;go_wp2_with fail;go_loopw [15] (fun i wr=>∃ k:Nat,k≤x.copies.length∧i=.int .i64 k∧Hid (∀ j y,j<k→x.copies[j]?=some y→Gp x y=true)∧Below w.heap.size w wr) (fun i _=>x.copies.length - (intOf i).toNat)
 case atStart=>exact ⟨0,zL,rfl,fun j y h=>absurd h (Nat.not_lt_zero _),by go_grown⟩
 case round =>
  obtain ⟨k,hk,rfl,ho,hbel⟩:=hrel;by_cases hlt:k<x.copies.length
  ·obtain ⟨y,hy⟩:=gX hlt
   obtain ⟨b,o,rfl,_,_,hc⟩:=(N3.out.below CpyC.holds hbel nL).at hy;obtain ⟨a7,c7,q0,q1,q2,q3,q4,q5,q6,q7,q8,q9,q10,q11,z0,z1,z6,z9,z10,z11,z7⟩:=hc;simp only [Nat.add_zero] at q0 q1 q2 q3 q4 q5 q6 q7 q8 q9 q10 q11;have Z1:=iH z1;have Z6:=iH z6;have Z9:=iH z9;have Z10:=iH z10;have Z11:=iH z11;have Z7:=iH z7;have HRA:Hid (wr.rangeAt b (o+k*12) (ccL y a7 c7)):=Aa q0 (Aa q1 (Aa q2 (Aa q3 (Aa q4 (Aa q5 (Aa q6 (Aa q7 (Aa q8 (Aa q9 (Aa q10 (Aa q11 (Ap _ _ _))))))))))));have HX:=iH hy;have HB:=iH hbel;clear hy hbel q0 q1 q2 q3 q4 q5 q6 q7 q8 q9 q10 q11 z0 z1 z6 z7 z9 z10 z11;go_upto_region 4 with (first | (refine lr Exq HRA ?_));have HG:=ra wr (ccA y a7 c7) 48 (ccL y a7 c7);have HB4:Hid (Below w.heap.size w (wr.alloc (Obj.cells (ccA y a7 c7) 48))):=HB.out.alloc HB.out.size _;have HS4:Hid (wr.heap.size<(wr.alloc (Obj.cells (ccA y a7 c7) 48)).heap.size):=by show _<_;simp
   have Z74:Hid (SliceC LikC 2 lo (wr.alloc (Obj.cells (ccA y a7 c7) 48)) a7 y.likes):=Z7.out.below LikC.holds ((Below.refl _ _).alloc nL _) nL;clear HB HRA Z7;generalize wr.alloc (Obj.cells (ccA y a7 c7) 48)=w4 at *;have OA:=iH (Am O1 HB4 hm1);have OB:=iH (Am O2 HB4 hm2);have PA:Hid (w4.cell? ⟨p,4,none⟩=some (.map (some m1))):=(HB4.out.cell (p:=⟨p,4,none⟩) hpl).trans P4;have PB:Hid (w4.cell? ⟨p,5,none⟩=some (.map (some m2))):=(HB4.out.cell (p:=⟨p,5,none⟩) hpl).trans P5;refine wp_region_held_drew (S:=fun wy=>wy.rangeAt wr.heap.size 0 (ccL y a7 c7)∧wy.cell? ⟨p,5,none⟩=some (.map (some m2))∧wy.ownsMap Tryz.prog 9 (plainElem Tryz.prog 3) m2 x.services.length (Aj (x.services.map (·.name)) x.services.length)) (by kernel_rfl) ⟨Ba HG,by simpa using PB.out,OB.out.drew⟩ (fun hS=>?_);refine ty 0 ⟨some 20,_,_,_,_,none⟩ (.pointer (some ⟨p,0,none⟩)) rfl (by rfl) ?_ hS ?_
   ·intro wy hy
    obtain ⟨yr,yc,yo⟩:=hy;have y1:wy.cell? ⟨wr.heap.size,1,none⟩=some (.string y.service):=yr 1 _ rfl;have yl:=Ar (s:=y.service) yo Z1;clear yr yo;go_simp
   simp only [pX];refine ty 1 ⟨some 21,_,_,_,_,none⟩ (.pointer (some ⟨p,0,none⟩)) rfl (by rfl) ?_ hS ?_
   ·intro wy hy
    obtain ⟨yr,yc,yo⟩:=hy;have y1:wy.cell? ⟨wr.heap.size,1,none⟩=some (.string y.service):=yr 1 _ rfl;have yl:=Ar (s:=y.service) yo Z1;clear yr yo;go_simp
   simp only [pX];refine ty 2 ⟨some 22,_,_,_,_,none⟩ (.pointer (some ⟨p,5,none⟩)) rfl (by rfl) ?_ hS ?_
   ·intro wy hy
    obtain ⟨yr,yc,yo⟩:=hy;have y1:wy.cell? ⟨wr.heap.size,1,none⟩=some (.string y.service):=yr 1 _ rfl;have yl:=Ar (s:=y.service) yo Z1;clear yr yo;go_simp
   simp only [pX];refine ty 3 ⟨some 23,_,_,_,_,none⟩ (.map (some m2)) rfl (by rfl) ?_ hS ?_
   ·intro wy hy
    obtain ⟨yr,yc,yo⟩:=hy;have y1:wy.cell? ⟨wr.heap.size,1,none⟩=some (.string y.service):=yr 1 _ rfl;have yl:=Ar (s:=y.service) yo Z1;clear yr yo;go_simp
   simp only [pX];refine ty 4 ⟨some 24,_,_,_,_,none⟩ (.pointer (some ⟨wr.heap.size,1,none⟩)) rfl (by rfl) ?_ hS ?_
   ·intro wy hy
    obtain ⟨yr,yc,yo⟩:=hy;have y1:wy.cell? ⟨wr.heap.size,1,none⟩=some (.string y.service):=yr 1 _ rfl;have yl:=Ar (s:=y.service) yo Z1;clear yr yo;go_simp
   simp only [pX];refine ty 5 ⟨some 25,_,_,_,_,none⟩ (.string y.service) rfl (by rfl) ?_ hS ?_
   ·intro wy hy
    obtain ⟨yr,yc,yo⟩:=hy;have y1:wy.cell? ⟨wr.heap.size,1,none⟩=some (.string y.service):=yr 1 _ rfl;have yl:=Ar (s:=y.service) yo Z1;clear yr yo;go_simp
   simp only [pX];refine ty 6 ⟨some 26,_,_,_,_,none⟩ (.tuple #[.int .i64 (((Asq (x.services.map (·.name)) y.service x.services.length).getD 0:Nat):Int),.bool (Asq (x.services.map (·.name)) y.service x.services.length).isSome]) rfl (by rfl) ?_ hS ?_
   ·intro wy hy
    obtain ⟨yr,yc,yo⟩:=hy;have y1:wy.cell? ⟨wr.heap.size,1,none⟩=some (.string y.service):=yr 1 _ rfl;have yl:=Ar (s:=y.service) yo Z1;clear yr yo;go_simp
   simp only [pX];refine ty 7 ⟨some 19,_,_,_,_,none⟩ (.tuple #[.int .i64 (((Asq (x.services.map (·.name)) y.service x.services.length).getD 0:Nat):Int),.bool (Asq (x.services.map (·.name)) y.service x.services.length).isSome]) rfl (by rfl) ?_ hS ?_
   ·intro wy hy
    obtain ⟨yr,yc,yo⟩:=hy;have y1:wy.cell? ⟨wr.heap.size,1,none⟩=some (.string y.service):=yr 1 _ rfl;have yl:=Ar (s:=y.service) yo Z1;clear yr yo;go_simp
   simp only [pX];refine ty 8 ⟨some 27,_,_,_,_,none⟩ (.int .i64 (((Asq (x.services.map (·.name)) y.service x.services.length).getD 0:Nat):Int)) rfl (by rfl) ?_ hS ?_
   ·intro wy hy
    obtain ⟨yr,yc,yo⟩:=hy;have y1:wy.cell? ⟨wr.heap.size,1,none⟩=some (.string y.service):=yr 1 _ rfl;have yl:=Ar (s:=y.service) yo Z1;clear yr yo;go_simp
   simp only [pX];refine ty 9 ⟨some 28,_,_,_,_,none⟩ (.bool (Asq (x.services.map (·.name)) y.service x.services.length).isSome) rfl (by rfl) ?_ hS ?_
   ·intro wy hy
    obtain ⟨yr,yc,yo⟩:=hy;have y1:wy.cell? ⟨wr.heap.size,1,none⟩=some (.string y.service):=yr 1 _ rfl;have yl:=Ar (s:=y.service) yo Z1;clear yr yo;go_simp
   simp only [pX];refine ty 10 ⟨some 5,_,_,_,_,none⟩ (.int .i64 (((Asq (x.services.map (·.name)) y.service x.services.length).getD 0:Nat):Int)) rfl (by rfl) ?_ hS ?_
   ·intro wy hy
    obtain ⟨yr,yc,yo⟩:=hy;have y1:wy.cell? ⟨wr.heap.size,1,none⟩=some (.string y.service):=yr 1 _ rfl;have yl:=Ar (s:=y.service) yo Z1;clear yr yo;go_simp
   simp only [pX];refine ty 11 ⟨some 6,_,_,_,_,none⟩ (.bool (Asq (x.services.map (·.name)) y.service x.services.length).isSome) rfl (by rfl) ?_ hS ?_
   ·intro wy hy
    obtain ⟨yr,yc,yo⟩:=hy;have y1:wy.cell? ⟨wr.heap.size,1,none⟩=some (.string y.service):=yr 1 _ rfl;have yl:=Ar (s:=y.service) yo Z1;clear yr yo;go_simp
   simp only [pX];refine td ?_;have HG5:Hid (w4.drew.rangeAt wr.heap.size 0 (ccL y a7 c7)):=Ba HG;have HB5:Hid (Below w.heap.size w w4.drew):=HB4.out.drew;have HS5:Hid (wr.heap.size<w4.drew.heap.size):=HS4.out;have Z75:Hid (SliceC LikC 2 lo w4.drew a7 y.likes):=Z74.out.below LikC.holds (B:=w4.heap.size) (Below.refl _ _).drew nL;have OA5:=iH OA.out.drew;have PA5:Hid (w4.drew.cell? ⟨p,4,none⟩=some (.map (some m1))):=by show _=_;simpa using PA.out
   clear HG HB4 HS4 Z74 OA OB PA PB;generalize w4.drew=w5 at *;have HG:=HG5;clear HG5;go_upto_region 5 with fail;refine wp_region_held_drew (S:=fun wy=>wy.rangeAt wr.heap.size 0 (ccL y a7 c7)∧wy.cell? ⟨p,4,none⟩=some (.map (some m1))∧wy.ownsMap Tryz.prog 9 (plainElem Tryz.prog 3) m1 x.berths.length (Aj (x.berths.map (·.name)) x.berths.length)) (by kernel_rfl) ⟨Ba HG,by simpa using PA5.out,OA5.out.drew⟩ (fun hS=>?_);refine ty 0 ⟨some 30,_,_,_,_,none⟩ (.pointer (some ⟨p,0,none⟩)) rfl (by rfl) ?_ hS ?_
   ·intro wy hy
    obtain ⟨yr,yc,yo⟩:=hy;have y11:wy.cell? ⟨wr.heap.size,11,none⟩=some (.string y.at_):=yr 11 _ rfl;have yl:=Ar (s:=y.at_) yo Z11;clear yr yo;go_simp
   simp only [pX];refine ty 1 ⟨some 31,_,_,_,_,none⟩ (.pointer (some ⟨p,0,none⟩)) rfl (by rfl) ?_ hS ?_
   ·intro wy hy
    obtain ⟨yr,yc,yo⟩:=hy;have y11:wy.cell? ⟨wr.heap.size,11,none⟩=some (.string y.at_):=yr 11 _ rfl;have yl:=Ar (s:=y.at_) yo Z11;clear yr yo;go_simp
   simp only [pX];refine ty 2 ⟨some 32,_,_,_,_,none⟩ (.pointer (some ⟨p,4,none⟩)) rfl (by rfl) ?_ hS ?_
   ·intro wy hy
    obtain ⟨yr,yc,yo⟩:=hy;have y11:wy.cell? ⟨wr.heap.size,11,none⟩=some (.string y.at_):=yr 11 _ rfl;have yl:=Ar (s:=y.at_) yo Z11;clear yr yo;go_simp
   simp only [pX];refine ty 3 ⟨some 33,_,_,_,_,none⟩ (.map (some m1)) rfl (by rfl) ?_ hS ?_
   ·intro wy hy
    obtain ⟨yr,yc,yo⟩:=hy;have y11:wy.cell? ⟨wr.heap.size,11,none⟩=some (.string y.at_):=yr 11 _ rfl;have yl:=Ar (s:=y.at_) yo Z11;clear yr yo;go_simp
   simp only [pX];refine ty 4 ⟨some 34,_,_,_,_,none⟩ (.pointer (some ⟨wr.heap.size,11,none⟩)) rfl (by rfl) ?_ hS ?_
   ·intro wy hy
    obtain ⟨yr,yc,yo⟩:=hy;have y11:wy.cell? ⟨wr.heap.size,11,none⟩=some (.string y.at_):=yr 11 _ rfl;have yl:=Ar (s:=y.at_) yo Z11;clear yr yo;go_simp
   simp only [pX];refine ty 5 ⟨some 35,_,_,_,_,none⟩ (.string y.at_) rfl (by rfl) ?_ hS ?_
   ·intro wy hy
    obtain ⟨yr,yc,yo⟩:=hy;have y11:wy.cell? ⟨wr.heap.size,11,none⟩=some (.string y.at_):=yr 11 _ rfl;have yl:=Ar (s:=y.at_) yo Z11;clear yr yo;go_simp
   simp only [pX];refine ty 6 ⟨some 36,_,_,_,_,none⟩ (.tuple #[.int .i64 (((Asq (x.berths.map (·.name)) y.at_ x.berths.length).getD 0:Nat):Int),.bool (Asq (x.berths.map (·.name)) y.at_ x.berths.length).isSome]) rfl (by rfl) ?_ hS ?_
   ·intro wy hy
    obtain ⟨yr,yc,yo⟩:=hy;have y11:wy.cell? ⟨wr.heap.size,11,none⟩=some (.string y.at_):=yr 11 _ rfl;have yl:=Ar (s:=y.at_) yo Z11;clear yr yo;go_simp
   simp only [pX];refine ty 7 ⟨some 29,_,_,_,_,none⟩ (.tuple #[.int .i64 (((Asq (x.berths.map (·.name)) y.at_ x.berths.length).getD 0:Nat):Int),.bool (Asq (x.berths.map (·.name)) y.at_ x.berths.length).isSome]) rfl (by rfl) ?_ hS ?_
   ·intro wy hy
    obtain ⟨yr,yc,yo⟩:=hy;have y11:wy.cell? ⟨wr.heap.size,11,none⟩=some (.string y.at_):=yr 11 _ rfl;have yl:=Ar (s:=y.at_) yo Z11;clear yr yo;go_simp
   simp only [pX];refine ty 8 ⟨some 37,_,_,_,_,none⟩ (.int .i64 (((Asq (x.berths.map (·.name)) y.at_ x.berths.length).getD 0:Nat):Int)) rfl (by rfl) ?_ hS ?_
   ·intro wy hy
    obtain ⟨yr,yc,yo⟩:=hy;have y11:wy.cell? ⟨wr.heap.size,11,none⟩=some (.string y.at_):=yr 11 _ rfl;have yl:=Ar (s:=y.at_) yo Z11;clear yr yo;go_simp
   simp only [pX];refine ty 9 ⟨some 38,_,_,_,_,none⟩ (.bool (Asq (x.berths.map (·.name)) y.at_ x.berths.length).isSome) rfl (by rfl) ?_ hS ?_
   ·intro wy hy
    obtain ⟨yr,yc,yo⟩:=hy;have y11:wy.cell? ⟨wr.heap.size,11,none⟩=some (.string y.at_):=yr 11 _ rfl;have yl:=Ar (s:=y.at_) yo Z11;clear yr yo;go_simp
   simp only [pX];refine ty 10 ⟨some 7,_,_,_,_,none⟩ (.int .i64 (((Asq (x.berths.map (·.name)) y.at_ x.berths.length).getD 0:Nat):Int)) rfl (by rfl) ?_ hS ?_
   ·intro wy hy
    obtain ⟨yr,yc,yo⟩:=hy;have y11:wy.cell? ⟨wr.heap.size,11,none⟩=some (.string y.at_):=yr 11 _ rfl;have yl:=Ar (s:=y.at_) yo Z11;clear yr yo;go_simp
   simp only [pX];refine ty 11 ⟨some 8,_,_,_,_,none⟩ (.bool (Asq (x.berths.map (·.name)) y.at_ x.berths.length).isSome) rfl (by rfl) ?_ hS ?_
   ·intro wy hy
    obtain ⟨yr,yc,yo⟩:=hy;have y11:wy.cell? ⟨wr.heap.size,11,none⟩=some (.string y.at_):=yr 11 _ rfl;have yl:=Ar (s:=y.at_) yo Z11;clear yr yo;go_simp
   simp only [pX];refine td ?_;have HG5:Hid (w5.drew.rangeAt wr.heap.size 0 (ccL y a7 c7)):=Ba HG;have HB6:Hid (Below w.heap.size w w5.drew):=HB5.out.drew;have Z76:Hid (SliceC LikC 2 lo w5.drew a7 y.likes):=Z75.out.below LikC.holds (B:=w5.heap.size) (Below.refl _ _).drew nL;clear HG HB5 HS5 Z75 OA5 PA5;generalize w5.drew=w6 at *;have HSA:Hid (Gp x y=((Asq (x.services.map (·.name)) y.service x.services.length).isSome && ((Asq (x.berths.map (·.name)) y.at_ x.berths.length).isSome || decide (y.at_.size=0)) && Cd y)):=rfl;have bad:Hid (Gp x y=false→Br x=false):=fun h=>List.all_eq_false.mpr ⟨y,List.mem_of_getElem? HX,by simp [h]⟩
   generalize (Asq (x.services.map (·.name)) y.service x.services.length).isSome=B1 at *;generalize (Asq (x.berths.map (·.name)) y.at_ x.berths.length).isSome=B2 at *;generalize (((Asq (x.services.map (·.name)) y.service x.services.length).getD 0:Nat):Int)=I1 at *;generalize (((Asq (x.berths.map (·.name)) y.at_ x.berths.length).getD 0:Nat):Int)=I2 at *;have e0:w6.cell? ⟨wr.heap.size,0,none⟩=some (.string y.name):=HG5.out 0 _ rfl;have e1:w6.cell? ⟨wr.heap.size,1,none⟩=some (.string y.service):=HG5.out 1 _ rfl;have e2:w6.cell? ⟨wr.heap.size,2,none⟩=some (.int .i64 y.rank):=HG5.out 2 _ rfl;have e3:w6.cell? ⟨wr.heap.size,3,none⟩=some (.int .i64 y.born):=HG5.out 3 _ rfl;have e4:w6.cell? ⟨wr.heap.size,4,none⟩=some (.int .i64 y.room):=HG5.out 4 _ rfl;have e5:w6.cell? ⟨wr.heap.size,5,none⟩=some (.int .i64 y.hold):=HG5.out 5 _ rfl;have e6:w6.cell? ⟨wr.heap.size,6,none⟩=some (.string y.select):=HG5.out 6 _ rfl;have e7:w6.cell? ⟨wr.heap.size,7,none⟩=some (.slice a7 y.likes.length c7):=HG5.out 7 _ rfl;have e8:w6.cell? ⟨wr.heap.size,8,none⟩=some (.int .i64 y.apart):=HG5.out 8 _ rfl;have e9:w6.cell? ⟨wr.heap.size,9,none⟩=some (.string y.near):=HG5.out 9 _ rfl;have e10:w6.cell? ⟨wr.heap.size,10,none⟩=some (.string y.fixed):=HG5.out 10 _ rfl;have e11:w6.cell? ⟨wr.heap.size,11,none⟩=some (.string y.at_):=HG5.out 11 _ rfl;cases B1
   ·have HC:Hid (Br x=false):=bad.out (by rw [HSA.out];rfl)
    clear ho bad HSA;go_wp2_with fail;go_ret;exact ⟨Ah HC.out.symm,HB6⟩
   ·cases B2
    ·by_cases he:y.at_=⟨#[]⟩
     ·have hsz:Hid (y.at_.size=0):=by show _=_;rw [he];rfl
      have hte:y.at_.toList=[]:=by rw [he];simp
      clear he;go_wp2_with fail;refine (Pr y a7 c7 lo _ Z6 Z76 Z9 Z10).mono ?_;rintro e w7 ⟨rfl,hb7⟩;have HB7:=qT HB6 hb7;clear hb7 HB6 e0 e1 e2 e3 e4 e5 e6 e7 e8 e9 e10 e11;cases hcp:Cd y
      ·have HC:Hid (Br x=false):=bad.out (by rw [HSA.out];simp [hcp])
       clear ho bad HSA hcp;go_wp2_with fail;go_ret;exact ⟨Ah HC.out.symm,HB7⟩
      ·have HO:Hid (∀ j z,j<k+1→x.copies[j]?=some z→Gp x z=true):=by
        intro j z hj hz;by_cases e:j=k
        ·subst e
         rw [HX.out] at hz;cases hz
         rw [HSA.out];simp [hcp,hsz.out]
        ·exact ho.out j z (by omega) hz
       clear ho bad HSA hcp;go_wp2_with fail;go_roundw
       case rel=>exact ⟨k+1,by omega,by go_num,HO,HB7⟩
       case measure=>simp [intOf];omega
     ·have hsz:¬ y.at_.size=0:=fun e=>he (ByteArray.ext (Array.eq_empty_of_size_eq_zero e))
      have hte:¬ y.at_.toList=[]:=by
       rw [ByteArray.toList_eq];exact fun e=>hsz (by have:=congrArg List.length e;simpa using this)
      have HC:Hid (Br x=false):=bad.out (by rw [HSA.out];simp [hsz]);clear ho bad HSA he hsz;go_wp2_with fail;go_ret;exact ⟨Ah HC.out.symm,HB6⟩
    ·go_wp2_with fail
     refine (Pr y a7 c7 lo _ Z6 Z76 Z9 Z10).mono ?_;rintro e w7 ⟨rfl,hb7⟩;have HB7:=qT HB6 hb7;clear hb7 HB6 e0 e1 e2 e3 e4 e5 e6 e7 e8 e9 e10 e11;cases hcp:Cd y
     ·have HC:Hid (Br x=false):=bad.out (by rw [HSA.out];simp [hcp])
      clear ho bad HSA hcp;go_wp2_with fail;go_ret;exact ⟨Ah HC.out.symm,HB7⟩
     ·have HO:Hid (∀ j z,j<k+1→x.copies[j]?=some z→Gp x z=true):=by
       intro j z hj hz;by_cases e:j=k
       ·subst e
        rw [HX.out] at hz;cases hz
        rw [HSA.out];simp [hcp]
       ·exact ho.out j z (by omega) hz
      clear ho bad HSA hcp;go_wp2_with fail;go_roundw
      case rel=>exact ⟨k+1,by omega,by go_num,HO,HB7⟩
      case measure=>simp [intOf];omega
  ·have hke:k=x.copies.length:=by omega
   subst hke;have HC:Hid (Br x=true):=by
    show _=_
    simp only [Br,List.all_eq_true];intro y hy;obtain ⟨j,hj,e⟩:=List.mem_iff_getElem.mp hy;exact ho.out j y hj (by rw [gE hj,e])
   clear ho;go_wp2_with fail;go_ret;exact ⟨Ah HC.out.symm,hbel⟩
end Go.Proofs.YtihnjndnkgnmaaaGreat
