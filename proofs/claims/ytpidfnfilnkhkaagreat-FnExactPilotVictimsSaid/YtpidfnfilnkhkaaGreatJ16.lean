import Derived.Test.YtpidfnfilnkhkaaGreatJ15
import Derived.Sort.AtCall
set_option maxHeartbeats 2000000
set_option maxRecDepth 100000
namespace Go.Proofs.YtpidfnfilnkhkaaGreat
open Go.RowKit Go.WideMaps Go.Maps Tryz
theorem Av{ns:List BA}{m n l:Nat}{w:World}{s:BA}(h:w.ownsMap prog 9 (plainElem prog 3) m n (Ah ns l))(hs:s.size<=maxLen) :
  (Instr.lookup 64 (.map (some m)) (.string s) true).run prog w=.ok (.tuple #[.int .i64 (((Al ns s l).getD 0:Nat):Int),.bool (Al ns s l).isSome]) w:=by
 have hkey:keyOf prog 9 (.string s)=some (kOf s):=keyOf_string_mk underlying9 hs;obtain⟨v,ps,hrun,hv⟩:=h.look_ok Cp underlying64 (Cz w) (plainElem_int underlying3 (a:=0) (by decide)) hkey;obtain⟨c,rfl,hc,_⟩:=plainElem_int_inv underlying3 hv;have h1:=congrArg Prod.fst hc;simp only at h1;have h3:=h1.symm.trans (Ia ns s l);have h5:c=(((Al ns s l).getD 0:Nat):Int):=by simpa using h3
 rw[hrun,h5,Gv ns s l]
def Hi(x:Flt)(c:Cpy):Bool :=
 (Al (x.services.map (·.name)) c.service x.services.length).isSome&&((Al (x.berths.map (·.name)) c.at_ x.berths.length).isSome||decide (c.at_.size=0))&&Cj c
def Bm(x:Flt):Bool:=x.copies.all (Hi x)
theorem gV(p:Nat)(x:Flt)(a3:OA)(c3:Nat)(m1 m2:Nat)(lo:Nat)(w:World)(p3:w.cell? ⟨p,3,none⟩=some (.slice a3 x.copies.length c3))(p4:w.cell? ⟨p,4,none⟩=some (.map (some m1)))(p5:w.cell? ⟨p,5,none⟩=some (.map (some m2)))(o1:w.ownsMap prog 9 (plainElem prog 3) m1 x.berths.length (Ah (x.berths.map (·.name)) x.berths.length))(o2:w.ownsMap prog 9 (plainElem prog 3) m2 x.services.length (Ah (x.services.map (·.name)) x.services.length))(n3:SliceC CpyC 12 lo w a3 x.copies)(l3:x.copies.length<=1048576) :
  Calls prog 109 #[.pointer (some ⟨p,0,none⟩)] w (Rt (.bool (Bm x)) w):=by
 have N3:=iH n3;have O1:=iH o1;have O2:=iH o2;have hpl:p<w.heap.size:=block_lt_of_cell p3;have hm1:m1<w.heap.size:=o1.lt;have hm2:m2<w.heap.size:=o2.lt;have P4:=iH p4;have P5:=iH p5;clear n3 o1 o2 p4 p5;go_enter func109,ntmps109
 go_wp2
 go_loopw [15] (λi wr=>∃k:Nat,k<=x.copies.length/\i=.int .i64 k/\Hid (∀j y,j<k->x.copies[j]?=some y->Hi x y=true)/\Below w.heap.size w wr) (λi _=>x.copies.length-(intOf i).toNat)
 case atStart=>exact⟨0,zL,rfl,λj y h=>absurd h (Nat.not_lt_zero _),by go_grown⟩
 case round =>
  obtain⟨k,hk,rfl,ho,hbel⟩:=hrel;by_cases hlt:k<x.copies.length
  .obtain⟨y,hy⟩:=gXe hlt
   obtain⟨b,o,rfl,_,_,hc⟩:=(N3.out.below CpyC.holds hbel nL).at hy;obtain⟨a7,c7,q0,q1,q2,q3,q4,q5,q6,q7,q8,q9,q10,q11,z0,z1,z6,z9,z10,z11,z7⟩:=hc;simp only[Nat.add_zero]at q0 q1 q2 q3 q4 q5 q6 q7 q8 q9 q10 q11;have Z1:=iH z1;have Z6:=iH z6;have Z9:=iH z9;have Z10:=iH z10;have Z11:=iH z11;have Z7:=iH z7;have HRA:Hid (wr.rangeAt b (o+k*12) (ccL y a7 c7)):=Aa q0 (Aa q1 (Aa q2 (Aa q3 (Aa q4 (Aa q5 (Aa q6 (Aa q7 (Aa q8 (Aa q9 (Aa q10 (Aa q11 (Ao _ _ _))))))))))));have HX:=iH hy;have HB:=iH hbel;clear hy hbel q0 q1 q2 q3 q4 q5 q6 q7 q8 q9 q10 q11 z0 z1 z6 z7 z9 z10 z11;go_upto_region 4 with(first|(refine qLr Jg HRA ?_));have HG:=qRa wr (ccA y a7 c7) 49 (ccL y a7 c7);have HB4:Hid (Below w.heap.size w (wr.alloc (Obj.cells (ccA y a7 c7) 49))):=HB.out.alloc HB.out.size _;have HS4:Hid (wr.heap.size<(wr.alloc (Obj.cells (ccA y a7 c7) 49)).heap.size):=by show _<_;simp
   have Z74:Hid (SliceC LikC 2 lo (wr.alloc (Obj.cells (ccA y a7 c7) 49)) a7 y.likes):=Z7.out.below LikC.holds ((Below.refl _ _).alloc nL _) nL;clear HB HRA Z7;generalize wr.alloc (Obj.cells (ccA y a7 c7) 49)=w4 at *;have OA:=iH (Af O1 HB4 hm1);have OB:=iH (Af O2 HB4 hm2);have PA:Hid (w4.cell? ⟨p,4,none⟩=some (.map (some m1))):=(HB4.out.cell (p:=⟨p,4,none⟩) hpl).trans P4;have PB:Hid (w4.cell? ⟨p,5,none⟩=some (.map (some m2))):=(HB4.out.cell (p:=⟨p,5,none⟩) hpl).trans P5;refine wp_region_held_drew (S:=λwy=>wy.rangeAt wr.heap.size 0 (ccL y a7 c7)/\wy.cell? ⟨p,5,none⟩=some (.map (some m2))/\wy.ownsMap prog 9 (plainElem prog 3) m2 x.services.length (Ah (x.services.map (·.name)) x.services.length)) (by kernel_rfl) ⟨Bt HG,by simpa using PB.out,OB.out.drew⟩ (λhS=>?_);refine ty 0 ⟨some 20,_,_,_,_,none⟩ (.pointer (some ⟨p,0,none⟩)) ?_ ?_
   .intro wy hy
    obtain⟨yr,yc,yo⟩:=hy;have y1:wy.cell? ⟨wr.heap.size,1,none⟩=some (.string y.service):=yr 1 _ rfl;have yl:=Av (s:=y.service) yo Z1;clear yr yo;go_simp
   refine ty 1 ⟨some 21,_,_,_,_,none⟩ (.pointer (some ⟨p,0,none⟩)) ?_ ?_
   .intro wy hy
    obtain⟨yr,yc,yo⟩:=hy;have y1:wy.cell? ⟨wr.heap.size,1,none⟩=some (.string y.service):=yr 1 _ rfl;have yl:=Av (s:=y.service) yo Z1;clear yr yo;go_simp
   refine ty 2 ⟨some 22,_,_,_,_,none⟩ (.pointer (some ⟨p,5,none⟩)) ?_ ?_
   .intro wy hy
    obtain⟨yr,yc,yo⟩:=hy;have y1:wy.cell? ⟨wr.heap.size,1,none⟩=some (.string y.service):=yr 1 _ rfl;have yl:=Av (s:=y.service) yo Z1;clear yr yo;go_simp
   refine ty 3 ⟨some 23,_,_,_,_,none⟩ (.map (some m2)) ?_ ?_
   .intro wy hy
    obtain⟨yr,yc,yo⟩:=hy;have y1:wy.cell? ⟨wr.heap.size,1,none⟩=some (.string y.service):=yr 1 _ rfl;have yl:=Av (s:=y.service) yo Z1;clear yr yo;go_simp
   refine ty 4 ⟨some 24,_,_,_,_,none⟩ (.pointer (some ⟨wr.heap.size,1,none⟩)) ?_ ?_
   .intro wy hy
    obtain⟨yr,yc,yo⟩:=hy;have y1:wy.cell? ⟨wr.heap.size,1,none⟩=some (.string y.service):=yr 1 _ rfl;have yl:=Av (s:=y.service) yo Z1;clear yr yo;go_simp
   refine ty 5 ⟨some 25,_,_,_,_,none⟩ (.string y.service) ?_ ?_
   .intro wy hy
    obtain⟨yr,yc,yo⟩:=hy;have y1:wy.cell? ⟨wr.heap.size,1,none⟩=some (.string y.service):=yr 1 _ rfl;have yl:=Av (s:=y.service) yo Z1;clear yr yo;go_simp
   refine ty 6 ⟨some 26,_,_,_,_,none⟩ (.tuple #[.int .i64 (((Al (x.services.map (·.name)) y.service x.services.length).getD 0:Nat):Int),.bool (Al (x.services.map (·.name)) y.service x.services.length).isSome]) ?_ ?_
   .intro wy hy
    obtain⟨yr,yc,yo⟩:=hy;have y1:wy.cell? ⟨wr.heap.size,1,none⟩=some (.string y.service):=yr 1 _ rfl;have yl:=Av (s:=y.service) yo Z1;clear yr yo;go_simp
   refine ty 7 ⟨some 19,_,_,_,_,none⟩ (.tuple #[.int .i64 (((Al (x.services.map (·.name)) y.service x.services.length).getD 0:Nat):Int),.bool (Al (x.services.map (·.name)) y.service x.services.length).isSome]) ?_ ?_
   .intro wy hy
    obtain⟨yr,yc,yo⟩:=hy;have y1:wy.cell? ⟨wr.heap.size,1,none⟩=some (.string y.service):=yr 1 _ rfl;have yl:=Av (s:=y.service) yo Z1;clear yr yo;go_simp
   refine ty 8 ⟨some 27,_,_,_,_,none⟩ (.int .i64 (((Al (x.services.map (·.name)) y.service x.services.length).getD 0:Nat):Int)) ?_ ?_
   .intro wy hy
    obtain⟨yr,yc,yo⟩:=hy;have y1:wy.cell? ⟨wr.heap.size,1,none⟩=some (.string y.service):=yr 1 _ rfl;have yl:=Av (s:=y.service) yo Z1;clear yr yo;go_simp
   refine ty 9 ⟨some 28,_,_,_,_,none⟩ (.bool (Al (x.services.map (·.name)) y.service x.services.length).isSome) ?_ ?_
   .intro wy hy
    obtain⟨yr,yc,yo⟩:=hy;have y1:wy.cell? ⟨wr.heap.size,1,none⟩=some (.string y.service):=yr 1 _ rfl;have yl:=Av (s:=y.service) yo Z1;clear yr yo;go_simp
   refine ty 10 ⟨some 5,_,_,_,_,none⟩ (.int .i64 (((Al (x.services.map (·.name)) y.service x.services.length).getD 0:Nat):Int)) ?_ ?_
   .intro wy hy
    obtain⟨yr,yc,yo⟩:=hy;have y1:wy.cell? ⟨wr.heap.size,1,none⟩=some (.string y.service):=yr 1 _ rfl;have yl:=Av (s:=y.service) yo Z1;clear yr yo;go_simp
   refine ty 11 ⟨some 6,_,_,_,_,none⟩ (.bool (Al (x.services.map (·.name)) y.service x.services.length).isSome) ?_ ?_
   .intro wy hy
    obtain⟨yr,yc,yo⟩:=hy;have y1:wy.cell? ⟨wr.heap.size,1,none⟩=some (.string y.service):=yr 1 _ rfl;have yl:=Av (s:=y.service) yo Z1;clear yr yo;go_simp
   refine td ?_;have HG5:Hid (w4.drew.rangeAt wr.heap.size 0 (ccL y a7 c7)):=Bt HG;have HB5:Hid (Below w.heap.size w w4.drew):=HB4.out.drew;have HS5:Hid (wr.heap.size<w4.drew.heap.size):=HS4.out;have Z75:Hid (SliceC LikC 2 lo w4.drew a7 y.likes):=Z74.out.below LikC.holds (B:=w4.heap.size) (Below.refl _ _).drew nL;have OA5:=iH OA.out.drew;have PA5:Hid (w4.drew.cell? ⟨p,4,none⟩=some (.map (some m1))):=by show _=_;simpa using PA.out
   clear HG HB4 HS4 Z74 OA OB PA PB;generalize w4.drew=w5 at *;have HG:=HG5;clear HG5;go_upto_region 5 with fail;refine wp_region_held_drew (S:=λwy=>wy.rangeAt wr.heap.size 0 (ccL y a7 c7)/\wy.cell? ⟨p,4,none⟩=some (.map (some m1))/\wy.ownsMap prog 9 (plainElem prog 3) m1 x.berths.length (Ah (x.berths.map (·.name)) x.berths.length)) (by kernel_rfl) ⟨Bt HG,by simpa using PA5.out,OA5.out.drew⟩ (λhS=>?_);refine ty 0 ⟨some 30,_,_,_,_,none⟩ (.pointer (some ⟨p,0,none⟩)) ?_ ?_
   .intro wy hy
    obtain⟨yr,yc,yo⟩:=hy;have y11:wy.cell? ⟨wr.heap.size,11,none⟩=some (.string y.at_):=yr 11 _ rfl;have yl:=Av (s:=y.at_) yo Z11;clear yr yo;go_simp
   refine ty 1 ⟨some 31,_,_,_,_,none⟩ (.pointer (some ⟨p,0,none⟩)) ?_ ?_
   .intro wy hy
    obtain⟨yr,yc,yo⟩:=hy;have y11:wy.cell? ⟨wr.heap.size,11,none⟩=some (.string y.at_):=yr 11 _ rfl;have yl:=Av (s:=y.at_) yo Z11;clear yr yo;go_simp
   refine ty 2 ⟨some 32,_,_,_,_,none⟩ (.pointer (some ⟨p,4,none⟩)) ?_ ?_
   .intro wy hy
    obtain⟨yr,yc,yo⟩:=hy;have y11:wy.cell? ⟨wr.heap.size,11,none⟩=some (.string y.at_):=yr 11 _ rfl;have yl:=Av (s:=y.at_) yo Z11;clear yr yo;go_simp
   refine ty 3 ⟨some 33,_,_,_,_,none⟩ (.map (some m1)) ?_ ?_
   .intro wy hy
    obtain⟨yr,yc,yo⟩:=hy;have y11:wy.cell? ⟨wr.heap.size,11,none⟩=some (.string y.at_):=yr 11 _ rfl;have yl:=Av (s:=y.at_) yo Z11;clear yr yo;go_simp
   refine ty 4 ⟨some 34,_,_,_,_,none⟩ (.pointer (some ⟨wr.heap.size,11,none⟩)) ?_ ?_
   .intro wy hy
    obtain⟨yr,yc,yo⟩:=hy;have y11:wy.cell? ⟨wr.heap.size,11,none⟩=some (.string y.at_):=yr 11 _ rfl;have yl:=Av (s:=y.at_) yo Z11;clear yr yo;go_simp
   refine ty 5 ⟨some 35,_,_,_,_,none⟩ (.string y.at_) ?_ ?_
   .intro wy hy
    obtain⟨yr,yc,yo⟩:=hy;have y11:wy.cell? ⟨wr.heap.size,11,none⟩=some (.string y.at_):=yr 11 _ rfl;have yl:=Av (s:=y.at_) yo Z11;clear yr yo;go_simp
   refine ty 6 ⟨some 36,_,_,_,_,none⟩ (.tuple #[.int .i64 (((Al (x.berths.map (·.name)) y.at_ x.berths.length).getD 0:Nat):Int),.bool (Al (x.berths.map (·.name)) y.at_ x.berths.length).isSome]) ?_ ?_
   .intro wy hy
    obtain⟨yr,yc,yo⟩:=hy;have y11:wy.cell? ⟨wr.heap.size,11,none⟩=some (.string y.at_):=yr 11 _ rfl;have yl:=Av (s:=y.at_) yo Z11;clear yr yo;go_simp
   refine ty 7 ⟨some 29,_,_,_,_,none⟩ (.tuple #[.int .i64 (((Al (x.berths.map (·.name)) y.at_ x.berths.length).getD 0:Nat):Int),.bool (Al (x.berths.map (·.name)) y.at_ x.berths.length).isSome]) ?_ ?_
   .intro wy hy
    obtain⟨yr,yc,yo⟩:=hy;have y11:wy.cell? ⟨wr.heap.size,11,none⟩=some (.string y.at_):=yr 11 _ rfl;have yl:=Av (s:=y.at_) yo Z11;clear yr yo;go_simp
   refine ty 8 ⟨some 37,_,_,_,_,none⟩ (.int .i64 (((Al (x.berths.map (·.name)) y.at_ x.berths.length).getD 0:Nat):Int)) ?_ ?_
   .intro wy hy
    obtain⟨yr,yc,yo⟩:=hy;have y11:wy.cell? ⟨wr.heap.size,11,none⟩=some (.string y.at_):=yr 11 _ rfl;have yl:=Av (s:=y.at_) yo Z11;clear yr yo;go_simp
   refine ty 9 ⟨some 38,_,_,_,_,none⟩ (.bool (Al (x.berths.map (·.name)) y.at_ x.berths.length).isSome) ?_ ?_
   .intro wy hy
    obtain⟨yr,yc,yo⟩:=hy;have y11:wy.cell? ⟨wr.heap.size,11,none⟩=some (.string y.at_):=yr 11 _ rfl;have yl:=Av (s:=y.at_) yo Z11;clear yr yo;go_simp
   refine ty 10 ⟨some 7,_,_,_,_,none⟩ (.int .i64 (((Al (x.berths.map (·.name)) y.at_ x.berths.length).getD 0:Nat):Int)) ?_ ?_
   .intro wy hy
    obtain⟨yr,yc,yo⟩:=hy;have y11:wy.cell? ⟨wr.heap.size,11,none⟩=some (.string y.at_):=yr 11 _ rfl;have yl:=Av (s:=y.at_) yo Z11;clear yr yo;go_simp
   refine ty 11 ⟨some 8,_,_,_,_,none⟩ (.bool (Al (x.berths.map (·.name)) y.at_ x.berths.length).isSome) ?_ ?_
   .intro wy hy
    obtain⟨yr,yc,yo⟩:=hy;have y11:wy.cell? ⟨wr.heap.size,11,none⟩=some (.string y.at_):=yr 11 _ rfl;have yl:=Av (s:=y.at_) yo Z11;clear yr yo;go_simp
   refine td ?_;have HG5:Hid (w5.drew.rangeAt wr.heap.size 0 (ccL y a7 c7)):=Bt HG;have HB6:Hid (Below w.heap.size w w5.drew):=HB5.out.drew;have Z76:Hid (SliceC LikC 2 lo w5.drew a7 y.likes):=Z75.out.below LikC.holds (B:=w5.heap.size) (Below.refl _ _).drew nL;clear HG HB5 HS5 Z75 OA5 PA5;generalize w5.drew=w6 at *;have HSA:Hid (Hi x y=((Al (x.services.map (·.name)) y.service x.services.length).isSome&&((Al (x.berths.map (·.name)) y.at_ x.berths.length).isSome||decide (y.at_.size=0))&&Cj y)):=rfl;have bad:Hid (Hi x y=false->Bm x=false):=λh=>List.all_eq_false.mpr ⟨y,List.mem_of_getElem? HX,by simp[h]⟩
   generalize(Al (x.services.map (·.name)) y.service x.services.length).isSome=B1 at *;generalize(Al (x.berths.map (·.name)) y.at_ x.berths.length).isSome=B2 at *;generalize(((Al (x.services.map (·.name)) y.service x.services.length).getD 0:Nat):Int)=I1 at *;generalize(((Al (x.berths.map (·.name)) y.at_ x.berths.length).getD 0:Nat):Int)=I2 at *;have e0:w6.cell? ⟨wr.heap.size,0,none⟩=some (.string y.name):=HG5.out 0 _ rfl;have e1:w6.cell? ⟨wr.heap.size,1,none⟩=some (.string y.service):=HG5.out 1 _ rfl;have e2:w6.cell? ⟨wr.heap.size,2,none⟩=some (.int .i64 y.rank):=HG5.out 2 _ rfl;have e3:w6.cell? ⟨wr.heap.size,3,none⟩=some (.int .i64 y.born):=HG5.out 3 _ rfl;have e4:w6.cell? ⟨wr.heap.size,4,none⟩=some (.int .i64 y.room):=HG5.out 4 _ rfl;have e5:w6.cell? ⟨wr.heap.size,5,none⟩=some (.int .i64 y.hold):=HG5.out 5 _ rfl;have e6:w6.cell? ⟨wr.heap.size,6,none⟩=some (.string y.select):=HG5.out 6 _ rfl;have e7:w6.cell? ⟨wr.heap.size,7,none⟩=some (.slice a7 y.likes.length c7):=HG5.out 7 _ rfl;have e8:w6.cell? ⟨wr.heap.size,8,none⟩=some (.int .i64 y.apart):=HG5.out 8 _ rfl;have e9:w6.cell? ⟨wr.heap.size,9,none⟩=some (.string y.near):=HG5.out 9 _ rfl;have e10:w6.cell? ⟨wr.heap.size,10,none⟩=some (.string y.fixed):=HG5.out 10 _ rfl;have e11:w6.cell? ⟨wr.heap.size,11,none⟩=some (.string y.at_):=HG5.out 11 _ rfl;cases B1
   .have HC:Hid (Bm x=false):=bad.out (by rw[HSA.out];rfl)
    clear ho bad HSA
    go_wp2
    go_ret;exact⟨Ab HC.out.symm,HB6⟩
   .cases B2
    .by_cases he:y.at_=⟨#[]⟩
     .have hsz:Hid (y.at_.size=0):=by show _=_;rw[he];rfl
      have hte:y.at_.toList=[]:=by rw[he];simp
      clear he;go_wp2_with fail;refine(Wl y a7 c7 lo _ Z6 Z76 Z9 Z10).mono ?_;rintro e w7⟨rfl,hb7⟩;have HB7:=qTH HB6 hb7;clear hb7 HB6 e0 e1 e2 e3 e4 e5 e6 e7 e8 e9 e10 e11;cases hcp:Cj y
      .have HC:Hid (Bm x=false):=bad.out (by rw[HSA.out];simp[hcp])
       clear ho bad HSA hcp
       go_wp2
       go_ret;exact⟨Ab HC.out.symm,HB7⟩
      .have HO:Hid (∀j z,j<k+1->x.copies[j]?=some z->Hi x z=true):=by
        intro j z hj hz;by_cases e:j=k
        .subst e
         rw[HX.out]at hz;cases hz
         rw[HSA.out];simp[hcp,hsz.out]
        .exact ho.out j z (by omega) hz
       clear ho bad HSA hcp
       go_wp2
       go_roundw
       case rel=>exact⟨k+1,by omega,by go_num,HO,HB7⟩
       case measure=>simp[intOf];omega
     .have hsz:¬y.at_.size=0:=λe=>he (ByteArray.ext (Array.eq_empty_of_size_eq_zero e))
      have hte:¬y.at_.toList=[]:=by
       rw[ByteArray.toList_eq];exact λe=>hsz (by have:=congrArg List.length e;simpa using this)
      have HC:Hid (Bm x=false):=bad.out (by rw[HSA.out];simp[hsz]);clear ho bad HSA he hsz
      go_wp2
      go_ret;exact⟨Ab HC.out.symm,HB6⟩
    .go_wp2_with fail
     refine(Wl y a7 c7 lo _ Z6 Z76 Z9 Z10).mono ?_;rintro e w7⟨rfl,hb7⟩;have HB7:=qTH HB6 hb7;clear hb7 HB6 e0 e1 e2 e3 e4 e5 e6 e7 e8 e9 e10 e11;cases hcp:Cj y
     .have HC:Hid (Bm x=false):=bad.out (by rw[HSA.out];simp[hcp])
      clear ho bad HSA hcp
      go_wp2
      go_ret;exact⟨Ab HC.out.symm,HB7⟩
     .have HO:Hid (∀j z,j<k+1->x.copies[j]?=some z->Hi x z=true):=by
       intro j z hj hz;by_cases e:j=k
       .subst e
        rw[HX.out]at hz;cases hz
        rw[HSA.out];simp[hcp]
       .exact ho.out j z (by omega) hz
      clear ho bad HSA hcp
      go_wp2
      go_roundw
      case rel=>exact⟨k+1,by omega,by go_num,HO,HB7⟩
      case measure=>simp[intOf];omega
  .have hke:k=x.copies.length:=by omega
   subst hke;have HC:Hid (Bm x=true):=by
    show _=_
    simp only[Bm,List.all_eq_true];intro y hy;obtain⟨j,hj,e⟩:=List.mem_iff_getElem.mp hy;exact ho.out j y hj (by rw[gE hj,e])
   clear ho
   go_wp2
   go_ret;exact⟨Ab HC.out.symm,hbel⟩
theorem Qh(xs:List Brt)(a:OA)(cap lo:Nat)(w:World)(hin:SliceC BrtC 6 lo w a xs)(hsm:xs.length<=1048576) :
  Calls prog 99 #[.slice a xs.length cap,.func (.func 100) #[] #[]] w λe w'=>∃m,e=.returned (.map (some m))/\w'.ownsMap prog 9 (plainElem prog 3) m xs.length (Ah (xs.map (·.name)) xs.length)/\Below w.heap.size w w':=by
 refine(Xf xs a cap lo w hin hsm).mono ?_;rintro e w' ⟨rfl,h1,h2⟩;exact⟨_,rfl,h1,h2⟩
theorem Lp(xs:List Svc)(a:OA)(cap lo:Nat)(w:World)(hin:SliceC SvcC 2 lo w a xs)(hsm:xs.length<=1048576) :
  Calls prog 101 #[.slice a xs.length cap,.func (.func 102) #[] #[]] w λe w'=>∃m,e=.returned (.map (some m))/\w'.ownsMap prog 9 (plainElem prog 3) m xs.length (Ah (xs.map (·.name)) xs.length)/\Below w.heap.size w w':=by
 refine(Xg xs a cap lo w hin hsm).mono ?_;rintro e w' ⟨rfl,h1,h2⟩;exact⟨_,rfl,h1,h2⟩
theorem Hw(xs:List Cpy)(a:OA)(cap lo:Nat)(w:World)(hin:SliceC CpyC 12 lo w a xs)(hsm:xs.length<=1048576) :
  Calls prog 103 #[.slice a xs.length cap,.func (.func 104) #[] #[]] w λe w'=>∃m,e=.returned (.map (some m))/\w'.ownsMap prog 9 (plainElem prog 3) m xs.length (Ah (xs.map (·.name)) xs.length)/\Below w.heap.size w w':=by
 refine(Wn xs a cap lo w hin hsm).mono ?_;rintro e w' ⟨rfl,h1,h2⟩;exact⟨_,rfl,h1,h2⟩
theorem Hv{P:Program}{w:World}(t:TypeId):(Instr.makeMap t none).run P w=.ok (.map (some w.heap.size)) (w.alloc (.map #[] 0)):=rfl
def FltIn(b:Nat)(x:Flt)(a1:OA)(c1:Nat)(a2:OA)(c2:Nat)(a3:OA)(c3:Nat)(w:World):Prop :=
 w.cell? ⟨b,0,none⟩=some (.bool x.pack)/\w.cell? ⟨b,1,none⟩=some (.slice a1 x.berths.length c1)/\w.cell? ⟨b,2,none⟩=some (.slice a2 x.services.length c2)/\w.cell? ⟨b,3,none⟩=some (.slice a3 x.copies.length c3)
theorem FltIn.below{b:Nat}{x:Flt}{a1:OA}{c1:Nat}{a2:OA}{c2:Nat}{a3:OA}{c3:Nat}{w w':World}{B:Nat}(h:FltIn b x a1 c1 a2 c2 a3 c3 w)(hb:Below B w w')(hB:b<B):FltIn b x a1 c1 a2 c2 a3 c3 w' :=
 ⟨(hb.cell (p:=⟨b,0,none⟩) hB).trans h.1,(hb.cell (p:=⟨b,1,none⟩) hB).trans h.2.1,(hb.cell (p:=⟨b,2,none⟩) hB).trans h.2.2.1,(hb.cell (p:=⟨b,3,none⟩) hB).trans h.2.2.2⟩
def Au(x:Flt):Bool:=Dm x&&(Eu x&&(Ca x.berths&&(Fe x.services&&(Bm x&&Dd x.berths x.copies))))
theorem kL(w:World) :
  Calls prog 76 #[] w λe w'=>∃g,e=.returned (.slice (some ⟨g,0,none⟩) 6 6) /\
   w'.rangeAt g 0 [.func (.func 105) #[] #[],.func (.func 106) #[] #[],.func (.func 107) #[] #[],.func (.func 108) #[] #[],.func (.func 109) #[] #[],.func (.func 110) #[] #[]]/\g<w'.heap.size/\Below w.heap.size w w':=by
 go_enter func76,ntmps76
 go_wp2
 go_ret;refine⟨_,rfl,?_,?_,?_⟩
 .exact Aa (by simp) (Aa (by simp) (Aa (by simp) (Aa (by simp) (Aa (by simp) (Aa (by simp) (Ao _ _ _))))))
 .simp
 .go_grown
theorem cU{s:BA}{k:Nat}(hlt:k<s.size)(h:s[k].toNat=61)(hn:∀j,j<k->s.data.toList[j]?≠some 61):Cc s=k:=by
 have hk:s.data.toList[k]?=some 61:=by
  rw[gE (by simpa using hlt)]
  congr 1
  exact UInt8.toNat_inj.1 h
 by_cases hz:Cc s=-1
 .exact absurd hk (Lib.indexByte_none hz k)
 .obtain⟨o,ho⟩:∃o:Nat,Cc s=o:=⟨(Cc s).toNat,by have:=Vj s;omega⟩
  have h2:=Lib.indexByte_some ho;rcases Nat.lt_trichotomy o k with h3|h3|h3
  .exact absurd h2.1 (hn o h3)
  .rw[ho,h3]
  .exact absurd hk (h2.2 k h3)
theorem gJ{s:BA}(hn:∀j,j<s.size->s.data.toList[j]?≠some 61):Cc s=-1:=by
 by_cases hz:Cc s=-1
 .exact hz
 .obtain⟨o,ho⟩:∃o:Nat,Cc s=o:=⟨(Cc s).toNat,by have:=Vj s;omega⟩
  exact absurd (Lib.indexByte_some ho).1 (hn o (We ho))
theorem Mv(s:BA)(w:World)(hs:s.size<=maxLen) :
  Calls prog 92 #[.string s] w (Rt (.tuple #[.string (Ar s),.string (Fm s),.bool (Ec s)]) w):=by
 have HS:=iH hs;unfold maxLen at hs;go_enter func92,ntmps92
 go_wp2
 go_loopw [5] (λi wr=>∃k:Nat,k<=s.size/\i=.int .i64 k/\Hid (∀j,j<k->s.data.toList[j]?≠some 61)/\Below w.heap.size w wr) (λi _=>s.size-(intOf i).toNat)
 case atStart=>exact⟨0,zL,rfl,λj h=>absurd h (Nat.not_lt_zero _),Below.refl _ _⟩
 case round =>
  obtain⟨k,hk,rfl,hn,hbel⟩:=hrel;by_cases hlt:k<s.size
  .by_cases hb:s[k].toNat=61
   .have HE:Hid (Cc s=k):=cU hlt hb hn.out
    have HN:Hid (¬Cc s<0):=by have:=HE.out;show ¬_;omega
    have hbq:((s[k].toNat:Int)==61)=true:=by simp;omega
    have HB:=iH hbel;have HNm:Hid (Ar s=s.extract 0 k):=by show _=_;unfold Ar;rw[if_neg HN.out,HE.out];rfl
    obtain⟨n1,hn1⟩:∃n1:Nat,n1=k+1:=⟨_,rfl⟩;have HVl:Hid (Fm s=s.extract n1 s.size):=by show _=_;unfold Fm;rw[if_neg HN.out,HE.out,hn1];rfl
    have HMk:Hid (Ec s=(P.nameOk (s.extract 0 k)&&P.nameOk (s.extract n1 s.size))):=by show _=_;unfold Ec;rw[decide_eq_false HN.out,Bool.false_or,HNm.out,HVl.out]
    have i0:(0:Int)<=(k:Int):=by omega
    have i1:(k:Int)<=(s.size:Int):=by omega
    have i2:(n1:Int)<=(s.size:Int):=by omega
    have i3:(0:Int)<=(n1:Int):=by omega
    have HW:Hid (IntKind.i64.wrap ((k:Int)+1)=(n1:Int)):=by show _=_;rw[IntKind.wrap_i64];omega
    have Z1:Hid ((s.extract 0 k).size<=maxLen):=by have:=Lg HS;rw[HNm.out]at this;exact this
    have Z2:Hid ((s.extract n1 s.size).size<=maxLen):=by have:=Yr HS;rw[HVl.out]at this;exact this
    clear hn hbel hn1;go_upto_region 5 with fail;generalize hX:P.nameOk (s.extract 0 k)=X at *;generalize hY:P.nameOk (s.extract n1 s.size)=Y at *;have cN:∀d os,Calls prog 37 #[.string (s.extract 0 k)] (Sort.grow (redrawn wr d) os) λe w''=>e=.returned (.bool X)/\∃p:Regrown,w''=Sort.grow (redrawn wr p.d) p.os:=λd os=>by
     refine(Be _ _ Z1).mono ?_;rintro e w' ⟨rfl,rfl⟩;exact⟨by rw[hX],⟨d,os⟩,rfl⟩
    have cV:∀d os,Calls prog 37 #[.string (s.extract n1 s.size)] (Sort.grow (redrawn wr d) os) λe w''=>e=.returned (.bool Y)/\∃p:Regrown,w''=Sort.grow (redrawn wr p.d) p.os:=λd os=>by
     refine(Be _ _ Z2).mono ?_;rintro e w' ⟨rfl,rfl⟩;exact⟨by rw[hY],⟨d,os⟩,rfl⟩
    clear hX hY
    cases X with
    |false =>
     refine wp_region_quiet_below (by kernel_rfl) (by kernel_rfl) ?_
     repeat(quiet_step (first|(go_at_call_has 37 (s.extract 0 k);exact cN _ _)|(go_at_call_has 37 (s.extract n1 s.size);exact cV _ _)))
     rw[HW.out]
     repeat(quiet_step (first|(go_at_call_has 37 (s.extract 0 k);exact cN _ _)|(go_at_call_has 37 (s.extract n1 s.size);exact cV _ _)))
     refine wpQuiet_nil ?_;intro w5 hw';obtain⟨⟨dq,osq⟩,hw''⟩:=hw';have hB:=below_regrown wr dq osq;simp only[]at hw'';rw[<-hw'']at hB;clear hw'' cN cV;have HB5:=qTH HB hB;clear hB;go_wp2_with fail
     go_ret3
     exact⟨by rw[HNm.out,HVl.out,HMk.out];rfl,HB5⟩
    |true =>
     refine wp_region_quiet_below (by kernel_rfl) (by kernel_rfl) ?_
     repeat(quiet_step (first|(go_at_call_has 37 (s.extract 0 k);exact cN _ _)|(go_at_call_has 37 (s.extract n1 s.size);exact cV _ _)))
     rw[HW.out]
     repeat(quiet_step (first|(go_at_call_has 37 (s.extract 0 k);exact cN _ _)|(go_at_call_has 37 (s.extract n1 s.size);exact cV _ _)))
     rw[HW.out]
     repeat(quiet_step (first|(go_at_call_has 37 (s.extract 0 k);exact cN _ _)|(go_at_call_has 37 (s.extract n1 s.size);exact cV _ _)))
     refine wpQuiet_nil ?_;intro w5 hw';obtain⟨⟨dq,osq⟩,hw''⟩:=hw';have hB:=below_regrown wr dq osq;simp only[]at hw'';rw[<-hw'']at hB;clear hw'' cN cV;have HB5:=qTH HB hB;clear hB;go_wp2_with fail
     go_ret3
     exact⟨by rw[HNm.out,HVl.out,HMk.out];rfl,HB5⟩
   .have hbq:((s[k].toNat:Int)==61)=false:=by simp;omega
    have HN:Hid (∀j,j<k+1->s.data.toList[j]?≠some 61):=by
     intro j hj e;by_cases hjk:j=k
     .subst hjk
      rw[gE (by simpa using hlt)]at e;injection e with e;exact hb (by rw[show s[j]=(61:UInt8)from e];rfl)
     .exact hn.out j (by omega) e
    clear hn hb
    go_wp2
    go_roundw
    case rel=>exact⟨k+1,by omega,by go_num,HN,hbel⟩
    case measure=>simp[intOf];omega
  .have hke:k=s.size:=by omega
   have HE:Hid (Cc s<0):=by have:=gJ (s:=s) (λj hj=>hn.out j (by omega));show _<_;omega
   have HNm:Hid (Ar s=s):=by show _=_;unfold Ar;rw[if_pos HE.out]
   have HVl:Hid (Fm s=⟨#[]⟩):=by show _=_;unfold Fm;rw[if_pos HE.out]
   have HMk:Hid (Ec s=P.nameOk s):=by show _=_;unfold Ec;rw[decide_eq_true HE.out,Bool.true_or,Bool.and_true,HNm.out]
   have HB:=iH hbel;clear hn hbel;subst hke;go_wp2_with fail;refine(Be s _ HS).mono ?_;rintro e w' ⟨rfl,rfl⟩;generalize P.nameOk s=X at *;go_wp2_with fail
   go_ret3
   exact⟨by rw[HNm.out,HVl.out,HMk.out];rfl,HB⟩
end Go.Proofs.YtpidfnfilnkhkaaGreat
