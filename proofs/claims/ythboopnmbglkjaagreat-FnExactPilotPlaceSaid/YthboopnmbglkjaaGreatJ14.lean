import Derived.Test.YthboopnmbglkjaaGreatJ13
import Derived.Sort.AtCall
set_option maxHeartbeats 4000000
set_option maxRecDepth 100000
namespace Go.Proofs.YthboopnmbglkjaaGreat
open Go.RowKit Go.WideMaps Go.Maps Tryz
theorem Az{ns:List BA}{m n l:Nat}{w:World}{s:BA}(h:w.ownsMap prog 9 (plainElem prog 3) m n (Aj ns l))(hs:s.size<=maxLen) :
  (Instr.lookup 62 (.map (some m)) (Y s) true).run prog w=.ok (.tuple #[X (((Ar ns s l).getD 0:Nat):Int),.bool (Ar ns s l).isSome]) w:=by
 have hkey:keyOf prog 9 (Y s)=some (kOf s):=keyOf_string_mk underlying9 hs;obtain⟨v,ps,hrun,hv⟩:=h.look_ok El underlying62 (Ga w) (plainElem_int underlying3 (a:=0) (by decide)) hkey;obtain⟨c,rfl,hc,_⟩:=plainElem_int_inv underlying3 hv;have h1:=congrArg Prod.fst hc;simp only at h1;have h3:=h1.symm.trans (Rq ns s l);have h5:c=(((Ar ns s l).getD 0:Nat):Int):=by simpa using h3
 rw[hrun,h5,Lj ns s l]
def Gn(x:Flt)(c:Cpy):Bool :=
 (Ar (x.services.map (·.name)) c.service x.services.length).isSome&&((Ar (x.berths.map (·.name)) c.at_ x.berths.length).isSome||decide (c.at_.size=0))&&Cj c
def Br(x:Flt):Bool:=x.copies.all (Gn x)
theorem iM(p:Nat)(x:Flt)(a3:OA)(c3:Nat)(m1 m2:Nat)(lo:Nat)(w:World)(p3:w.cell? (E p 3)=some (.slice a3 x.copies.length c3))(p4:w.cell? (E p 4)=some (.map (some m1)))(p5:w.cell? (E p 5)=some (.map (some m2)))(o1:w.ownsMap prog 9 (plainElem prog 3) m1 x.berths.length (Aj (x.berths.map (·.name)) x.berths.length))(o2:w.ownsMap prog 9 (plainElem prog 3) m2 x.services.length (Aj (x.services.map (·.name)) x.services.length))(n3:sC lo w a3 x.copies)(l3:x.copies.length<=1048576) :
  Calls prog 98 #[pP p 0] w (Rt (.bool (Br x)) w):=by
 have N3:=iH n3;have O1:=iH o1;have O2:=iH o2;have hpl:p<w.heap.size:=block_lt_of_cell p3;have hm1:m1<w.heap.size:=o1.lt;have hm2:m2<w.heap.size:=o2.lt;have P4:=iH p4;have P5:=iH p5;clear n3 o1 o2 p4 p5;go_enter func98,ntmps98
 go_wp2
 go_loopw [15] (λi wr=>∃k:Nat,k<=x.copies.length/\i=X k/\Hid (∀j y,j<k->x.copies[j]?=some y->Gn x y=true)/\bW w wr) (λi _=>x.copies.length-(intOf i).toNat)
 case atStart=>exact⟨0,zL,rfl,λj y h=>absurd h (Nat.not_lt_zero _),by go_grown⟩
 obtain⟨k,hk,rfl,ho,hbel⟩:=hrel;by_cases hlt:k<x.copies.length
 .obtain⟨y,hy⟩:=gXe hlt
  obtain⟨b,o,rfl,_,_,hc⟩:=(N3.out.below CpyC.holds hbel nL).at hy;obtain⟨a7,c7,q0,q1,q2,q3,q4,q5,q6,q7,q8,q9,q10,q11,z0,z1,z6,z9,z10,z11,z7⟩:=hc;simp only[Nat.add_zero]at q0 q1 q2 q3 q4 q5 q6 q7 q8 q9 q10 q11;have Z1:=iH z1;have Z6:=iH z6;have Z9:=iH z9;have Z10:=iH z10;have Z11:=iH z11;have Z7:=iH z7;have HRA:Hid (wr.rangeAt b (o+k*12) (ccL y a7 c7)):=Aa q0 (Aa q1 (Aa q2 (Aa q3 (Aa q4 (Aa q5 (Aa q6 (Aa q7 (Aa q8 (Aa q9 (Aa q10 (Aa q11 (Am _ _ _))))))))))));have HX:=iH hy;have HB:=iH hbel;clear hy hbel q0 q1 q2 q3 q4 q5 q6 q7 q8 q9 q10 q11 z0 z1 z6 z7 z9 z10 z11;go_upto_region 4 with(first|(refine qLr Hb HRA ?_));have HG:=qRa wr (ccA y a7 c7) 54 (ccL y a7 c7);have HB4:Hid (bW w (wr.alloc (Obj.cells (ccA y a7 c7) 54))):=HB.out.alloc HB.out.size _;have HS4:Hid (wr.heap.size<(wr.alloc (Obj.cells (ccA y a7 c7) 54)).heap.size):=by show _<_;simp
  have Z74:Hid (sK lo (wr.alloc (Obj.cells (ccA y a7 c7) 54)) a7 y.likes):=Z7.out.below LikC.holds ((Below.refl _ _).alloc nL _) nL;clear HB HRA Z7;generalize wr.alloc (Obj.cells (ccA y a7 c7) 54)=w4 at *;have OA:=iH (Ag O1 HB4 hm1);have OB:=iH (Ag O2 HB4 hm2);have PA:Hid (w4.cell? (E p 4)=some (.map (some m1))):=(HB4.out.cell (p:=(E p 4)) hpl).trans P4;have PB:Hid (w4.cell? (E p 5)=some (.map (some m2))):=(HB4.out.cell (p:=(E p 5)) hpl).trans P5;refine wp_region_held_drew (S:=λwy=>wy.rangeAt wr.heap.size 0 (ccL y a7 c7)/\wy.cell? (E p 5)=some (.map (some m2))/\wy.ownsMap prog 9 (plainElem prog 3) m2 x.services.length (Aj (x.services.map (·.name)) x.services.length)) (by kernel_rfl) ⟨Bk HG,by simpa using PB.out,OB.out.drew⟩ (λhS=>?_);refine ty 0 ⟨some 20,_,_,_,_,none⟩ (pP p 0) ?_ ?_
  .intro wy hy
   obtain⟨yr,yc,yo⟩:=hy;have y1:wy.cell? (E wr.heap.size 1)=some (Y y.service):=yr 1 _ rfl;have yl:=Az (s:=y.service) yo Z1;clear yr yo;go_simp
  refine ty 1 ⟨some 21,_,_,_,_,none⟩ (pP p 0) ?_ ?_
  .intro wy hy
   obtain⟨yr,yc,yo⟩:=hy;have y1:wy.cell? (E wr.heap.size 1)=some (Y y.service):=yr 1 _ rfl;have yl:=Az (s:=y.service) yo Z1;clear yr yo;go_simp
  refine ty 2 ⟨some 22,_,_,_,_,none⟩ (pP p 5) ?_ ?_
  .intro wy hy
   obtain⟨yr,yc,yo⟩:=hy;have y1:wy.cell? (E wr.heap.size 1)=some (Y y.service):=yr 1 _ rfl;have yl:=Az (s:=y.service) yo Z1;clear yr yo;go_simp
  refine ty 3 ⟨some 23,_,_,_,_,none⟩ (.map (some m2)) ?_ ?_
  .intro wy hy
   obtain⟨yr,yc,yo⟩:=hy;have y1:wy.cell? (E wr.heap.size 1)=some (Y y.service):=yr 1 _ rfl;have yl:=Az (s:=y.service) yo Z1;clear yr yo;go_simp
  refine ty 4 ⟨some 24,_,_,_,_,none⟩ (pP wr.heap.size 1) ?_ ?_
  .intro wy hy
   obtain⟨yr,yc,yo⟩:=hy;have y1:wy.cell? (E wr.heap.size 1)=some (Y y.service):=yr 1 _ rfl;have yl:=Az (s:=y.service) yo Z1;clear yr yo;go_simp
  refine ty 5 ⟨some 25,_,_,_,_,none⟩ (Y y.service) ?_ ?_
  .intro wy hy
   obtain⟨yr,yc,yo⟩:=hy;have y1:wy.cell? (E wr.heap.size 1)=some (Y y.service):=yr 1 _ rfl;have yl:=Az (s:=y.service) yo Z1;clear yr yo;go_simp
  refine ty 6 ⟨some 26,_,_,_,_,none⟩ (.tuple #[X (((Ar (x.services.map (·.name)) y.service x.services.length).getD 0:Nat):Int),.bool (Ar (x.services.map (·.name)) y.service x.services.length).isSome]) ?_ ?_
  .intro wy hy
   obtain⟨yr,yc,yo⟩:=hy;have y1:wy.cell? (E wr.heap.size 1)=some (Y y.service):=yr 1 _ rfl;have yl:=Az (s:=y.service) yo Z1;clear yr yo;go_simp
  refine ty 7 ⟨some 19,_,_,_,_,none⟩ (.tuple #[X (((Ar (x.services.map (·.name)) y.service x.services.length).getD 0:Nat):Int),.bool (Ar (x.services.map (·.name)) y.service x.services.length).isSome]) ?_ ?_
  .intro wy hy
   obtain⟨yr,yc,yo⟩:=hy;have y1:wy.cell? (E wr.heap.size 1)=some (Y y.service):=yr 1 _ rfl;have yl:=Az (s:=y.service) yo Z1;clear yr yo;go_simp
  refine ty 8 ⟨some 27,_,_,_,_,none⟩ (X (((Ar (x.services.map (·.name)) y.service x.services.length).getD 0:Nat):Int)) ?_ ?_
  .intro wy hy
   obtain⟨yr,yc,yo⟩:=hy;have y1:wy.cell? (E wr.heap.size 1)=some (Y y.service):=yr 1 _ rfl;have yl:=Az (s:=y.service) yo Z1;clear yr yo;go_simp
  refine ty 9 ⟨some 28,_,_,_,_,none⟩ (.bool (Ar (x.services.map (·.name)) y.service x.services.length).isSome) ?_ ?_
  .intro wy hy
   obtain⟨yr,yc,yo⟩:=hy;have y1:wy.cell? (E wr.heap.size 1)=some (Y y.service):=yr 1 _ rfl;have yl:=Az (s:=y.service) yo Z1;clear yr yo;go_simp
  refine ty 10 ⟨some 5,_,_,_,_,none⟩ (X (((Ar (x.services.map (·.name)) y.service x.services.length).getD 0:Nat):Int)) ?_ ?_
  .intro wy hy
   obtain⟨yr,yc,yo⟩:=hy;have y1:wy.cell? (E wr.heap.size 1)=some (Y y.service):=yr 1 _ rfl;have yl:=Az (s:=y.service) yo Z1;clear yr yo;go_simp
  refine ty 11 ⟨some 6,_,_,_,_,none⟩ (.bool (Ar (x.services.map (·.name)) y.service x.services.length).isSome) ?_ ?_
  .intro wy hy
   obtain⟨yr,yc,yo⟩:=hy;have y1:wy.cell? (E wr.heap.size 1)=some (Y y.service):=yr 1 _ rfl;have yl:=Az (s:=y.service) yo Z1;clear yr yo;go_simp
  refine td ?_;have HG5:Hid (w4.drew.rangeAt wr.heap.size 0 (ccL y a7 c7)):=Bk HG;have HB5:Hid (bW w w4.drew):=HB4.out.drew;have HS5:Hid (wr.heap.size<w4.drew.heap.size):=HS4.out;have Z75:Hid (sK lo w4.drew a7 y.likes):=Z74.out.below LikC.holds (B:=w4.heap.size) (Below.refl _ _).drew nL;have OA5:=iH OA.out.drew;have PA5:Hid (w4.drew.cell? (E p 4)=some (.map (some m1))):=by show _=_;simpa using PA.out
  clear HG HB4 HS4 Z74 OA OB PA PB;generalize w4.drew=w5 at *;have HG:=HG5;clear HG5;go_upto_region 5 with fail;refine wp_region_held_drew (S:=λwy=>wy.rangeAt wr.heap.size 0 (ccL y a7 c7)/\wy.cell? (E p 4)=some (.map (some m1))/\wy.ownsMap prog 9 (plainElem prog 3) m1 x.berths.length (Aj (x.berths.map (·.name)) x.berths.length)) (by kernel_rfl) ⟨Bk HG,by simpa using PA5.out,OA5.out.drew⟩ (λhS=>?_);refine ty 0 ⟨some 30,_,_,_,_,none⟩ (pP p 0) ?_ ?_
  .intro wy hy
   obtain⟨yr,yc,yo⟩:=hy;have y11:wy.cell? (E wr.heap.size 11)=some (Y y.at_):=yr 11 _ rfl;have yl:=Az (s:=y.at_) yo Z11;clear yr yo;go_simp
  refine ty 1 ⟨some 31,_,_,_,_,none⟩ (pP p 0) ?_ ?_
  .intro wy hy
   obtain⟨yr,yc,yo⟩:=hy;have y11:wy.cell? (E wr.heap.size 11)=some (Y y.at_):=yr 11 _ rfl;have yl:=Az (s:=y.at_) yo Z11;clear yr yo;go_simp
  refine ty 2 ⟨some 32,_,_,_,_,none⟩ (pP p 4) ?_ ?_
  .intro wy hy
   obtain⟨yr,yc,yo⟩:=hy;have y11:wy.cell? (E wr.heap.size 11)=some (Y y.at_):=yr 11 _ rfl;have yl:=Az (s:=y.at_) yo Z11;clear yr yo;go_simp
  refine ty 3 ⟨some 33,_,_,_,_,none⟩ (.map (some m1)) ?_ ?_
  .intro wy hy
   obtain⟨yr,yc,yo⟩:=hy;have y11:wy.cell? (E wr.heap.size 11)=some (Y y.at_):=yr 11 _ rfl;have yl:=Az (s:=y.at_) yo Z11;clear yr yo;go_simp
  refine ty 4 ⟨some 34,_,_,_,_,none⟩ (pP wr.heap.size 11) ?_ ?_
  .intro wy hy
   obtain⟨yr,yc,yo⟩:=hy;have y11:wy.cell? (E wr.heap.size 11)=some (Y y.at_):=yr 11 _ rfl;have yl:=Az (s:=y.at_) yo Z11;clear yr yo;go_simp
  refine ty 5 ⟨some 35,_,_,_,_,none⟩ (Y y.at_) ?_ ?_
  .intro wy hy
   obtain⟨yr,yc,yo⟩:=hy;have y11:wy.cell? (E wr.heap.size 11)=some (Y y.at_):=yr 11 _ rfl;have yl:=Az (s:=y.at_) yo Z11;clear yr yo;go_simp
  refine ty 6 ⟨some 36,_,_,_,_,none⟩ (.tuple #[X (((Ar (x.berths.map (·.name)) y.at_ x.berths.length).getD 0:Nat):Int),.bool (Ar (x.berths.map (·.name)) y.at_ x.berths.length).isSome]) ?_ ?_
  .intro wy hy
   obtain⟨yr,yc,yo⟩:=hy;have y11:wy.cell? (E wr.heap.size 11)=some (Y y.at_):=yr 11 _ rfl;have yl:=Az (s:=y.at_) yo Z11;clear yr yo;go_simp
  refine ty 7 ⟨some 29,_,_,_,_,none⟩ (.tuple #[X (((Ar (x.berths.map (·.name)) y.at_ x.berths.length).getD 0:Nat):Int),.bool (Ar (x.berths.map (·.name)) y.at_ x.berths.length).isSome]) ?_ ?_
  .intro wy hy
   obtain⟨yr,yc,yo⟩:=hy;have y11:wy.cell? (E wr.heap.size 11)=some (Y y.at_):=yr 11 _ rfl;have yl:=Az (s:=y.at_) yo Z11;clear yr yo;go_simp
  refine ty 8 ⟨some 37,_,_,_,_,none⟩ (X (((Ar (x.berths.map (·.name)) y.at_ x.berths.length).getD 0:Nat):Int)) ?_ ?_
  .intro wy hy
   obtain⟨yr,yc,yo⟩:=hy;have y11:wy.cell? (E wr.heap.size 11)=some (Y y.at_):=yr 11 _ rfl;have yl:=Az (s:=y.at_) yo Z11;clear yr yo;go_simp
  refine ty 9 ⟨some 38,_,_,_,_,none⟩ (.bool (Ar (x.berths.map (·.name)) y.at_ x.berths.length).isSome) ?_ ?_
  .intro wy hy
   obtain⟨yr,yc,yo⟩:=hy;have y11:wy.cell? (E wr.heap.size 11)=some (Y y.at_):=yr 11 _ rfl;have yl:=Az (s:=y.at_) yo Z11;clear yr yo;go_simp
  refine ty 10 ⟨some 7,_,_,_,_,none⟩ (X (((Ar (x.berths.map (·.name)) y.at_ x.berths.length).getD 0:Nat):Int)) ?_ ?_
  .intro wy hy
   obtain⟨yr,yc,yo⟩:=hy;have y11:wy.cell? (E wr.heap.size 11)=some (Y y.at_):=yr 11 _ rfl;have yl:=Az (s:=y.at_) yo Z11;clear yr yo;go_simp
  refine ty 11 ⟨some 8,_,_,_,_,none⟩ (.bool (Ar (x.berths.map (·.name)) y.at_ x.berths.length).isSome) ?_ ?_
  .intro wy hy
   obtain⟨yr,yc,yo⟩:=hy;have y11:wy.cell? (E wr.heap.size 11)=some (Y y.at_):=yr 11 _ rfl;have yl:=Az (s:=y.at_) yo Z11;clear yr yo;go_simp
  refine td ?_;have HG5:Hid (w5.drew.rangeAt wr.heap.size 0 (ccL y a7 c7)):=Bk HG;have HB6:Hid (bW w w5.drew):=HB5.out.drew;have Z76:Hid (sK lo w5.drew a7 y.likes):=Z75.out.below LikC.holds (B:=w5.heap.size) (Below.refl _ _).drew nL;clear HG HB5 HS5 Z75 OA5 PA5;generalize w5.drew=w6 at *;have HSA:Hid (Gn x y=((Ar (x.services.map (·.name)) y.service x.services.length).isSome&&((Ar (x.berths.map (·.name)) y.at_ x.berths.length).isSome||decide (y.at_.size=0))&&Cj y)):=rfl;have bad:Hid (Gn x y=false->Br x=false):=λh=>List.all_eq_false.mpr ⟨y,List.mem_of_getElem? HX,by simp[h]⟩
  generalize(Ar (x.services.map (·.name)) y.service x.services.length).isSome=B1 at *;generalize(Ar (x.berths.map (·.name)) y.at_ x.berths.length).isSome=B2 at *;generalize(((Ar (x.services.map (·.name)) y.service x.services.length).getD 0:Nat):Int)=I1 at *;generalize(((Ar (x.berths.map (·.name)) y.at_ x.berths.length).getD 0:Nat):Int)=I2 at *;have e0:w6.cell? (E wr.heap.size 0)=some (Y y.name):=HG5.out 0 _ rfl;have e1:w6.cell? (E wr.heap.size 1)=some (Y y.service):=HG5.out 1 _ rfl;have e2:w6.cell? (E wr.heap.size 2)=some (X y.rank):=HG5.out 2 _ rfl;have e3:w6.cell? (E wr.heap.size 3)=some (X y.born):=HG5.out 3 _ rfl;have e4:w6.cell? (E wr.heap.size 4)=some (X y.room):=HG5.out 4 _ rfl;have e5:w6.cell? (E wr.heap.size 5)=some (X y.hold):=HG5.out 5 _ rfl;have e6:w6.cell? (E wr.heap.size 6)=some (Y y.select):=HG5.out 6 _ rfl;have e7:w6.cell? (E wr.heap.size 7)=some (.slice a7 y.likes.length c7):=HG5.out 7 _ rfl;have e8:w6.cell? (E wr.heap.size 8)=some (X y.apart):=HG5.out 8 _ rfl;have e9:w6.cell? (E wr.heap.size 9)=some (Y y.near):=HG5.out 9 _ rfl;have e10:w6.cell? (E wr.heap.size 10)=some (Y y.fixed):=HG5.out 10 _ rfl;have e11:w6.cell? (E wr.heap.size 11)=some (Y y.at_):=HG5.out 11 _ rfl;cases B1
  .have HC:Hid (Br x=false):=bad.out (by rw[HSA.out];rfl)
   clear ho bad HSA
   go_wp2
   go_ret;exact⟨Ab HC.out.symm,HB6⟩
  cases B2
  .by_cases he:y.at_=⟨#[]⟩
   .have hsz:Hid (y.at_.size=0):=by show _=_;rw[he];rfl
    have hte:y.at_.toList=[]:=by rw[he];simp
    clear he;go_wp2_with fail;refine(Vd y a7 c7 lo _ Z6 Z76 Z9 Z10).mono ?_;rintro e w7⟨rfl,hb7⟩;have HB7:=qTH HB6 hb7;clear hb7 HB6 e0 e1 e2 e3 e4 e5 e6 e7 e8 e9 e10 e11;cases hcp:Cj y
    .have HC:Hid (Br x=false):=bad.out (by rw[HSA.out];simp[hcp])
     clear ho bad HSA hcp
     go_wp2
     go_ret;exact⟨Ab HC.out.symm,HB7⟩
    have HO:Hid (∀j z,j<k+1->x.copies[j]?=some z->Gn x z=true):=by
     intro j z hj hz;by_cases e:j=k
     .subst e
      rw[HX.out]at hz;cases hz
      rw[HSA.out];simp[hcp,hsz.out]
     exact ho.out j z (by omega) hz
    clear ho bad HSA hcp
    go_wp2
    go_roundw
    case rel=>exact⟨k+1,by omega,by go_num,HO,HB7⟩
    simp[intOf];omega
   have hsz:¬y.at_.size=0:=λe=>he (ByteArray.ext (Array.eq_empty_of_size_eq_zero e))
   have hte:¬y.at_.toList=[]:=by
    rw[ByteArray.toList_eq];exact λe=>hsz (by have:=congrArg List.length e;simpa using this)
   have HC:Hid (Br x=false):=bad.out (by rw[HSA.out];simp[hsz]);clear ho bad HSA he hsz
   go_wp2
   go_ret;exact⟨Ab HC.out.symm,HB6⟩
  go_wp2_with fail;refine(Vd y a7 c7 lo _ Z6 Z76 Z9 Z10).mono ?_;rintro e w7⟨rfl,hb7⟩;have HB7:=qTH HB6 hb7;clear hb7 HB6 e0 e1 e2 e3 e4 e5 e6 e7 e8 e9 e10 e11;cases hcp:Cj y
  .have HC:Hid (Br x=false):=bad.out (by rw[HSA.out];simp[hcp])
   clear ho bad HSA hcp
   go_wp2
   go_ret;exact⟨Ab HC.out.symm,HB7⟩
  have HO:Hid (∀j z,j<k+1->x.copies[j]?=some z->Gn x z=true):=by
   intro j z hj hz;by_cases e:j=k
   .subst e
    rw[HX.out]at hz;cases hz
    rw[HSA.out];simp[hcp]
   exact ho.out j z (by omega) hz
  clear ho bad HSA hcp
  go_wp2
  go_roundw
  case rel=>exact⟨k+1,by omega,by go_num,HO,HB7⟩
  simp[intOf];omega
 have hke:k=x.copies.length:=by omega
 subst hke;have HC:Hid (Br x=true):=by
  show _=_
  simp only[Br,List.all_eq_true];intro y hy;obtain⟨j,hj,e⟩:=List.mem_iff_getElem.mp hy;exact ho.out j y hj (by rw[gE hj,e])
 clear ho
 go_wp2
 go_ret;exact⟨Ab HC.out.symm,hbel⟩
theorem Pm(xs:List Brt)(a:OA)(cap lo:Nat)(w:World)(hin:sB lo w a xs)(hsm:xs.length<=1048576) :
  Calls prog 88 #[.slice a xs.length cap,.func (.func 89) #[] #[]] w λe w'=>∃m,e=.returned (.map (some m))/\w'.ownsMap prog 9 (plainElem prog 3) m xs.length (Aj (xs.map (·.name)) xs.length)/\bW w w':=by
 refine(Yb xs a cap lo w hin hsm).mono ?_;rintro e w' ⟨rfl,h1,h2⟩;exact⟨_,rfl,h1,h2⟩
theorem Lo(xs:List Svc)(a:OA)(cap lo:Nat)(w:World)(hin:sV lo w a xs)(hsm:xs.length<=1048576) :
  Calls prog 90 #[.slice a xs.length cap,.func (.func 91) #[] #[]] w λe w'=>∃m,e=.returned (.map (some m))/\w'.ownsMap prog 9 (plainElem prog 3) m xs.length (Aj (xs.map (·.name)) xs.length)/\bW w w':=by
 refine(Xv xs a cap lo w hin hsm).mono ?_;rintro e w' ⟨rfl,h1,h2⟩;exact⟨_,rfl,h1,h2⟩
theorem Hn(xs:List Cpy)(a:OA)(cap lo:Nat)(w:World)(hin:sC lo w a xs)(hsm:xs.length<=1048576) :
  Calls prog 92 #[.slice a xs.length cap,.func (.func 93) #[] #[]] w λe w'=>∃m,e=.returned (.map (some m))/\w'.ownsMap prog 9 (plainElem prog 3) m xs.length (Aj (xs.map (·.name)) xs.length)/\bW w w':=by
 refine(Xt xs a cap lo w hin hsm).mono ?_;rintro e w' ⟨rfl,h1,h2⟩;exact⟨_,rfl,h1,h2⟩
theorem Hs{P:Program}{w:World}(t:TypeId):(Instr.makeMap t none).run P w=.ok (.map (some w.heap.size)) (w.alloc (.map #[] 0)):=rfl
def FltIn(b:Nat)(x:Flt)(a1:OA)(c1:Nat)(a2:OA)(c2:Nat)(a3:OA)(c3:Nat)(w:World):Prop :=
 w.cell? (E b 0)=some (.bool x.pack)/\w.cell? (E b 1)=some (.slice a1 x.berths.length c1)/\w.cell? (E b 2)=some (.slice a2 x.services.length c2)/\w.cell? (E b 3)=some (.slice a3 x.copies.length c3)
theorem FltIn.below{b:Nat}{x:Flt}{a1:OA}{c1:Nat}{a2:OA}{c2:Nat}{a3:OA}{c3:Nat}{w w':World}{B:Nat}(h:FltIn b x a1 c1 a2 c2 a3 c3 w)(hb:Below B w w')(hB:b<B):FltIn b x a1 c1 a2 c2 a3 c3 w' :=
 ⟨(hb.cell (p:=(E b 0)) hB).trans h.1,(hb.cell (p:=(E b 1)) hB).trans h.2.1,(hb.cell (p:=(E b 2)) hB).trans h.2.2.1,(hb.cell (p:=(E b 3)) hB).trans h.2.2.2⟩
def Bb(x:Flt):Bool:=Dn x&&(En x&&(Cc x.berths&&(Fd x.services&&(Br x&&De x.berths x.copies))))
theorem jP(w:World) :
  Calls prog 60 #[] w λe w'=>∃g,e=.returned (sP g 0 6 6) /\
   w'.rangeAt g 0 [.func (.func 94) #[] #[],.func (.func 95) #[] #[],.func (.func 96) #[] #[],.func (.func 97) #[] #[],.func (.func 98) #[] #[],.func (.func 99) #[] #[]]/\g<w'.heap.size/\bW w w':=by
 go_enter func60,ntmps60
 go_wp2
 go_ret;refine⟨_,rfl,?_,?_,?_⟩
 .exact Aa (by simp) (Aa (by simp) (Aa (by simp) (Aa (by simp) (Aa (by simp) (Aa (by simp) (Am _ _ _))))))
 .simp
 go_grown
theorem fB{s:BA}{k:Nat}(hlt:k<s.size)(h:s[k].toNat=61)(hn:∀j,j<k->s.data.toList[j]?≠some 61):Cd s=k:=by
 have hk:s.data.toList[k]?=some 61:=by
  rw[gE (by simpa using hlt)]
  congr 1
  exact UInt8.toNat_inj.1 h
 by_cases hz:Cd s=-1
 .exact absurd hk (Lib.indexByte_none hz k)
 obtain⟨o,ho⟩:∃o:Nat,Cd s=o:=⟨(Cd s).toNat,by have:=Vb s;omega⟩;have h2:=Lib.indexByte_some ho;rcases Nat.lt_trichotomy o k with h3|h3|h3
 .exact absurd h2.1 (hn o h3)
 .rw[ho,h3]
 exact absurd hk (h2.2 k h3)
theorem fW{s:BA}(hn:∀j,j<s.size->s.data.toList[j]?≠some 61):Cd s=-1:=by
 by_cases hz:Cd s=-1
 .exact hz
 obtain⟨o,ho⟩:∃o:Nat,Cd s=o:=⟨(Cd s).toNat,by have:=Vb s;omega⟩;exact absurd (Lib.indexByte_some ho).1 (hn o (Vp ho))
theorem Nb(s:BA)(w:World)(hs:s.size<=maxLen) :
  Calls prog 119 #[Y s] w (Rt (.tuple #[Y (Av s),Y (Ff s),.bool (Eb s)]) w):=by
 have HS:=iH hs;unfold maxLen at hs;go_enter func119,ntmps119
 go_wp2
 go_loopw [5] (λi wr=>∃k:Nat,k<=s.size/\i=X k/\Hid (∀j,j<k->s.data.toList[j]?≠some 61)/\bW w wr) (λi _=>s.size-(intOf i).toNat)
 case atStart=>exact⟨0,zL,rfl,λj h=>absurd h (Nat.not_lt_zero _),Below.refl _ _⟩
 obtain⟨k,hk,rfl,hn,hbel⟩:=hrel;by_cases hlt:k<s.size
 .by_cases hb:s[k].toNat=61
  .have HE:Hid (Cd s=k):=fB hlt hb hn.out
   have HN:Hid (¬Cd s<0):=by have:=HE.out;show ¬_;omega
   have hbq:((s[k].toNat:Int)==61)=true:=by simp;omega
   have HB:=iH hbel;have HNm:Hid (Av s=s.extract 0 k):=by show _=_;unfold Av;rw[if_neg HN.out,HE.out];rfl
   obtain⟨n1,hn1⟩:∃n1:Nat,n1=k+1:=⟨_,rfl⟩;have HVl:Hid (Ff s=s.extract n1 s.size):=by show _=_;unfold Ff;rw[if_neg HN.out,HE.out,hn1];rfl
   have HMk:Hid (Eb s=(P.nameOk (s.extract 0 k)&&P.nameOk (s.extract n1 s.size))):=by show _=_;unfold Eb;rw[decide_eq_false HN.out,Bool.false_or,HNm.out,HVl.out]
   have i0:(0:Int)<=(k:Int):=by omega
   have i1:(k:Int)<=(s.size:Int):=by omega
   have i2:(n1:Int)<=(s.size:Int):=by omega
   have i3:(0:Int)<=(n1:Int):=by omega
   have HW:Hid (IntKind.i64.wrap ((k:Int)+1)=(n1:Int)):=by show _=_;rw[IntKind.wrap_i64];omega
   have Z1:Hid ((s.extract 0 k).size<=maxLen):=by have:=Lp HS;rw[HNm.out]at this;exact this
   have Z2:Hid ((s.extract n1 s.size).size<=maxLen):=by have:=Yx HS;rw[HVl.out]at this;exact this
   clear hn hbel hn1;go_upto_region 5 with fail;generalize hX:P.nameOk (s.extract 0 k)=X9 at *;generalize hY:P.nameOk (s.extract n1 s.size)=Y9 at *;have cN:∀d os,Calls prog 44 #[Y (s.extract 0 k)] (Sort.grow (redrawn wr d) os) λe w''=>e=.returned (.bool X9)/\∃p:Regrown,w''=Sort.grow (redrawn wr p.d) p.os:=λd os=>by
    refine(Bj _ _ Z1).mono ?_;rintro e w' ⟨rfl,rfl⟩;exact⟨by rw[hX],⟨d,os⟩,rfl⟩
   have cV:∀d os,Calls prog 44 #[Y (s.extract n1 s.size)] (Sort.grow (redrawn wr d) os) λe w''=>e=.returned (.bool Y9)/\∃p:Regrown,w''=Sort.grow (redrawn wr p.d) p.os:=λd os=>by
    refine(Bj _ _ Z2).mono ?_;rintro e w' ⟨rfl,rfl⟩;exact⟨by rw[hY],⟨d,os⟩,rfl⟩
   clear hX hY
   cases X9 with
   |false =>
    refine wp_region_quiet_below (by kernel_rfl) (by kernel_rfl) ?_
    repeat(quiet_step (first|(go_at_call_has 44 (s.extract 0 k);exact cN _ _)|(go_at_call_has 44 (s.extract n1 s.size);exact cV _ _)))
    rw[HW.out]
    repeat(quiet_step (first|(go_at_call_has 44 (s.extract 0 k);exact cN _ _)|(go_at_call_has 44 (s.extract n1 s.size);exact cV _ _)))
    refine wpQuiet_nil ?_;intro w5 hw';obtain⟨⟨dq,osq⟩,hw''⟩:=hw';have hB:=below_regrown wr dq osq;simp only[]at hw'';rw[<-hw'']at hB;clear hw'' cN cV;have HB5:=qTH HB hB;clear hB;go_wp2_with fail
    go_ret3
    exact⟨by rw[HNm.out,HVl.out,HMk.out];rfl,HB5⟩
   |true =>
    refine wp_region_quiet_below (by kernel_rfl) (by kernel_rfl) ?_
    repeat(quiet_step (first|(go_at_call_has 44 (s.extract 0 k);exact cN _ _)|(go_at_call_has 44 (s.extract n1 s.size);exact cV _ _)))
    rw[HW.out]
    repeat(quiet_step (first|(go_at_call_has 44 (s.extract 0 k);exact cN _ _)|(go_at_call_has 44 (s.extract n1 s.size);exact cV _ _)))
    rw[HW.out]
    repeat(quiet_step (first|(go_at_call_has 44 (s.extract 0 k);exact cN _ _)|(go_at_call_has 44 (s.extract n1 s.size);exact cV _ _)))
    refine wpQuiet_nil ?_;intro w5 hw';obtain⟨⟨dq,osq⟩,hw''⟩:=hw';have hB:=below_regrown wr dq osq;simp only[]at hw'';rw[<-hw'']at hB;clear hw'' cN cV;have HB5:=qTH HB hB;clear hB;go_wp2_with fail
    go_ret3
    exact⟨by rw[HNm.out,HVl.out,HMk.out];rfl,HB5⟩
  have hbq:((s[k].toNat:Int)==61)=false:=by simp;omega
  have HN:Hid (∀j,j<k+1->s.data.toList[j]?≠some 61):=by
   intro j hj e;by_cases hjk:j=k
   .subst hjk
    rw[gE (by simpa using hlt)]at e;injection e with e;exact hb (by rw[show s[j]=(61:UInt8)from e];rfl)
   exact hn.out j (by omega) e
  clear hn hb
  go_wp2
  go_roundw
  case rel=>exact⟨k+1,by omega,by go_num,HN,hbel⟩
  simp[intOf];omega
 have hke:k=s.size:=by omega
 have HE:Hid (Cd s<0):=by have:=fW (s:=s) (λj hj=>hn.out j (by omega));show _<_;omega
 have HNm:Hid (Av s=s):=by show _=_;unfold Av;rw[if_pos HE.out]
 have HVl:Hid (Ff s=⟨#[]⟩):=by show _=_;unfold Ff;rw[if_pos HE.out]
 have HMk:Hid (Eb s=P.nameOk s):=by show _=_;unfold Eb;rw[decide_eq_true HE.out,Bool.true_or,Bool.and_true,HNm.out]
 have HB:=iH hbel;clear hn hbel;subst hke;go_wp2_with fail;refine(Bj s _ HS).mono ?_;rintro e w' ⟨rfl,rfl⟩;generalize P.nameOk s=X9 at *;go_wp2_with fail
 go_ret3
 exact⟨by rw[HNm.out,HVl.out,HMk.out];rfl,HB⟩
def Da(ms:List BA)(nm:BA):Nat->Bool
 |0=>true
 |j+1=>Da ms nm j&&(match ms[j]? with
  |some t=>!decide (Av t=nm)
  |none=>true)
def Lw(ms:List BA):Nat->Bool
 |0=>match ms[0]? with
  |none=>true
  |some m=>Eb m
 |j+1=>match ms[j+1]?,ms[j]? with
  |some m,some t=>Eb m&&Op.bytesLess t.toList m.toList&&!decide (Av m=Av t)&&Da ms (Av m) (j+1)
  |_,_=>true
def Pd(ms:List BA):Nat->Bool
 |0=>true
 |k+1=>Pd ms k&&Lw ms k
def Oh(ms:List BA):Bool:=decide (ms.length<=10)&&Pd ms ms.length
theorem Uz{ms:List BA}{k:Nat}(h:Lw ms k=false):∀n,k<n->Pd ms n=false
 |0,hn=>absurd hn (Nat.not_lt_zero _)
 |n+1,hn=>by
  by_cases e:k=n
  .subst e;simp only[Pd,h,Bool.and_false]
  simp only[Pd,Uz h n (by omega),Bool.false_and]
theorem Wt{ms:List BA}{k:Nat}(h:Lw ms k=false)(hk:k<ms.length):Oh ms=false:=by
 simp only[Oh,Uz h _ hk,Bool.and_false]
theorem pO{ms:List BA}{k:Nat}(h:Pd ms k=true)(h':Lw ms k=true):Pd ms (k+1)=true:=by
 simp only[Pd,h,h',Bool.and_self]
theorem Sh{ms:List BA}{nm:BA}{q:Nat}{t:BA}(h:ms[q]?=some t)(h':Av t=nm):∀n,q<n->Da ms nm n=false
 |0,hn=>absurd hn (Nat.not_lt_zero _)
 |n+1,hn=>by
  by_cases e:q=n
  .subst e;simp only[Da,h,h',decide_true,Bool.not_true,Bool.and_false]
  simp only[Da,Sh h h' n (by omega),Bool.false_and]
theorem iP{ms:List BA}{nm:BA}{q:Nat}{t:BA}(h:Da ms nm q=true)(ht:ms[q]?=some t)(h':¬Av t=nm):Da ms nm (q+1)=true:=by
 simp only[Da,h,ht,h',decide_false,Bool.not_false,Bool.and_self]
def Hl(ms:List BA)(k:Nat)(m L:BA):Bool :=
 !Eb m||(match k with
  |0=>false
  |j+1=>match ms[j]? with
   |some t=>!Op.bytesLess t.toList m.toList||decide (Av m=L)
   |none=>false)
theorem eO{ms:List BA}{k:Nat}{m L:BA}(h:Eb m=false):Hl ms k m L=true:=by simp[Hl,h]
theorem Wl{ms:List BA}{m L:BA}(h:Eb m=true):Hl ms 0 m L=false:=by simp[Hl,h]
theorem Oj{ms:List BA}{j k:Nat}{m L t:BA}(h:Eb m=true)(hk:k=j+1)(ht:ms[j]?=some t):Hl ms k m L=(!Op.bytesLess t.toList m.toList||decide (Av m=L)):=by
 subst hk;simp only[Hl,h,ht,Bool.not_true,Bool.false_or]
theorem Xn{ms:List BA}{k:Nat}{m L:BA}(hx:ms[k]?=some m)(hl:∀j t,k=j+1->ms[j]?=some t->L=Av t)(hlt:k<ms.length)(h1:Hl ms k m L=true):Lw ms k=false:=by
 cases k with
 |zero=>cases hi:Eb m with
  |false=>simp only[Lw,hx,hi]
  |true=>rw[Wl hi]at h1;cases h1
 | succ j =>
  obtain⟨t,htt⟩:∃t,ms[j]?=some t:=⟨ms[j],gE (by omega)⟩;have hlt':=hl j t rfl htt;subst hlt';simp only[Lw,hx,htt]
  cases hi:Eb m with
  |false=>simp
  | true =>
   rw[Oj hi rfl htt]at h1
   cases hbl:Op.bytesLess t.toList m.toList with
   |false=>simp
   |true =>
    rw[hbl]at h1;simp at h1;simp[h1]
theorem Um{ms:List BA}{k:Nat}{m L:BA}(hx:ms[k]?=some m)(hl:∀j t,k=j+1->ms[j]?=some t->L=Av t)(hlt:k<ms.length)(h1:Hl ms k m L=false)(hf:Da ms (Av m) k=true):Lw ms k=true:=by
 cases hi:Eb m with
 |false=>rw[eO hi]at h1;cases h1
 |true =>
 cases k with
 |zero=>simp only[Lw,hx,hi]
 |succ j =>
  obtain⟨t,htt⟩:∃t,ms[j]?=some t:=⟨ms[j],gE (by omega)⟩;have hlt':=hl j t rfl htt;subst hlt';rw[Oj hi rfl htt]at h1;simp only[Lw,hx,htt,hi,hf];simp at h1;simp[h1]
theorem Vi{ms:List BA}{k:Nat}{m:BA}(hx:ms[k]?=some m)(hlt:k<ms.length)(hf:Da ms (Av m) k=false):Lw ms k=false:=by
 cases k with
 |zero=>simp[Da]at hf
 |succ j =>
  obtain⟨t,htt⟩:∃t,ms[j]?=some t:=⟨ms[j],gE (by omega)⟩;simp only[Lw,hx,htt,hf,Bool.and_false]
theorem bC(ms:List BA)(a:OA)(cap lo:Nat)(w:World)(hin:sX lo w a ms) :
  Calls prog 81 #[.slice a ms.length cap] w (Rt (.bool (Oh ms)) w):=by
 have hlen:=hin.1;unfold maxLen at hlen;have HI:=iH hin;clear hin;by_cases h10:ms.length<=10
 ·have HM:Hid (Oh ms=Pd ms ms.length):=by show _=_;simp[Oh,h10]
  go_enter func81,ntmps81
  go_wp2
  go_loopw [3,4] (λv i wr=>∃(k:Nat)(L:BA),k<=ms.length/\i=X k/\v=Y L/\Hid (Pd ms k=true)/\Hid (∀j t,k=j+1->ms[j]?=some t->L=Av t)/\Hid (bW w wr)) (λ_ i _=>ms.length-(intOf i).toNat)
  case atStart=>exact⟨0,_,zL,rfl,rfl,rfl,λj t h=>by omega,Below.refl _ _⟩
  obtain⟨k,L,hk,rfl,rfl,ht,hL,hb⟩:=hrel;by_cases hlt:k<ms.length
  .obtain⟨m,hm⟩:=gXe hlt
   obtain⟨b,o,rfl,_,_,hc⟩:=(HI.out.below StrC.holds hb.out nL).at hm;obtain⟨q0,z0⟩:=hc;simp only[Nat.mul_one,Nat.add_zero]at q0;have HX:=iH hm;have HZ:=iH z0;clear hm z0;go_wp2_with fail;refine(Nb m _ HZ).mono ?_;rintro e w2⟨rfl,hb2⟩;have HB2:=qTH hb hb2;have HI2:=iH (HI.out.below StrC.holds HB2 nL);clear hb2 hb q0;generalize hnm:Av m=nm at *;have HNM:=iH hnm;clear hnm;generalize Ff m=vl at *;go_upto_region 8 with fail
   go_cut [52] (λc wx=>c=.bool (Hl ms k m L)/\Hid (bW w2 wx))
   case first =>
    rcases Bool.eq_false_or_eq_true (Eb m)with hmk|hmk
    rotate_left
    case' _ =>
     have HR:Hid (Hl ms k m L=true):=by show _=_;exact eO hmk
    rotate_left
    case' _ =>
     rcases Nat.eq_zero_or_pos k with hk0|hk0
     case' _ =>
      subst hk0;have HR:Hid (Hl ms 0 m L=false):=by show _=_;exact Wl hmk
     rotate_left
     case' _ =>
      obtain⟨j,hj⟩:∃j,k=j+1:=⟨k-1,by omega⟩;obtain⟨t,htt⟩:∃t,ms[j]?=some t:=⟨ms[j],gE (by omega)⟩;obtain⟨b',o',hbo,_,_,hc'⟩:=HI2.out.at htt;cases hbo
      obtain⟨q1,z1⟩:=hc';obtain⟨b2,o2,hbo2,_,_,hc2⟩:=HI2.out.at HX;cases hbo2
      obtain⟨q2,_⟩:=hc2;simp only[Nat.mul_one,Nat.add_zero]at q1 q2;have q1':w2.cell? (E b (o+(k-1)))=some (Y t):=by rw[show k-1=j from by omega];exact q1
      have r1:=cell_regrown q1';have r2:=cell_regrown q2;have hjl:j<ms.length:=by omega
      have i0:(0:Int)<=(j:Int):=by omega
      have i1:(j:Int)<(ms.length:Int):=by omega
      have i2:(0:Int)<(k:Int):=by omega
      have i3:(0:Int)<=(k:Int):=by omega
      have i4:(k:Int)<(ms.length:Int):=by omega
      have HWJ:Hid (IntKind.i64.wrap ((k:Int)-1)=(j:Int)):=by show _=_;rw[IntKind.wrap_i64];omega
      have HS:Hid (Hl ms k m L=(!Op.bytesLess t.toList m.toList||decide (nm=L))):=by show _=_;rw[Oj hmk hj htt,HNM.out]
      clear z1 q1 q2 hj q1' HWJ;rcases Bool.eq_false_or_eq_true (Op.bytesLess t.toList m.toList)with hless|hless
      rotate_left
      case' _ =>
       have HR:Hid (Hl ms k m L=true):=by show _=_;rw[HS.out,hless];rfl
      rotate_left
      case' _ =>
       by_cases hne:nm=L
       case' _ =>
        have hte:=Bm hne;have HR:Hid (Hl ms k m L=true):=by show _=_;rw[HS.out,hless,decide_eq_true hne];rfl
       rotate_left
       case' _ =>
        have hte:=Bn hne;have HR:Hid (Hl ms k m L=false):=by show _=_;rw[HS.out,hless,decide_eq_false hne];rfl
       rotate_left
      rotate_left 2
     rotate_left 3
    rotate_left 4
    all_goals
     clear hL ht HI2 HM;refine wp_region_quiet_below (by kernel_rfl) (by kernel_rfl) ?_
     repeat(go_big_quiet_step (fail))
     refine wpQuiet_nil ?_;intro w5 hw';obtain⟨⟨dq,osq⟩,hw''⟩:=hw';have hB:=below_regrown w2 dq osq;simp only[]at hw'';rw[<-hw'']at hB;clear hw''
     go_wp2
     go_meet;exact⟨by rw[HR.out],hB⟩
   obtain⟨rfl,hbc⟩:=hcut;have HB3:=iH (HB2.out.trans (hbc.out.mono HB2.out.size));clear hbc HB2
   cases hbd:Hl ms k m L with
   |true =>
    have HC:Hid (Oh ms=false):=Wt (k:=k) (Xn HX hL.out hlt hbd) hlt;clear hL ht hbd
    go_wp2
    go_ret;exact⟨Ab HC.out.symm,HB3⟩
   | false =>
    have HA:Hid (Da ms nm k=true->Lw ms k=true):=λhf=>Um HX hL.out hlt hbd (by rw[HNM.out];exact hf)
    have HF:Hid (Da ms nm k=false->Lw ms k=false):=λhf=>Vi HX hlt (by rw[HNM.out];exact hf)
    clear hL hbd;go_wp2_with fail;obtain⟨wo,hwo⟩:∃wo,wo=wc:=⟨_,rfl⟩;subst hwo;go_loopw [8] (λi wx=>∃q:Nat,q<=k/\i=X q/\Hid (Da ms nm q=true)/\Hid (bW w wx)) (λi _=>k-(intOf i).toNat)
    case atStart=>exact⟨0,zL,rfl,rfl,HB3⟩
    clear HB3;obtain⟨q,hq,rfl,hfr,hbq⟩:=hrel;by_cases hql:q<k
    .obtain⟨t,htt⟩:∃t,ms[q]?=some t:=⟨ms[q],gE (by omega)⟩
     obtain⟨b',o',hbo,_,_,hc'⟩:=(HI.out.below StrC.holds hbq.out nL).at htt;cases hbo
     obtain⟨q1,z1⟩:=hc';simp only[Nat.mul_one,Nat.add_zero]at q1;have HT:=iH htt;have HTZ:=iH z1;have hqm:q<ms.length:=by omega
     clear htt z1;go_wp2_with fail;refine(Nb t _ HTZ).mono ?_;rintro e w5⟨rfl,hb5⟩;have HB5:=qTH hbq hb5;clear hb5 hbq q1;by_cases hne:Av t=nm
     .have HC:Hid (Oh ms=false):=Wt (k:=k) (HF (Sh HT hne k hql)) hlt
      have hte:=Bm hne;generalize Av t=nt at *;generalize Ff t=vt at *;clear hne HA HF ht hfr
      go_wp2
      go_ret;exact⟨Ab HC.out.symm,HB5⟩
     have HN:Hid (Da ms nm (q+1)=true):=iP hfr.out HT hne;have hte:=Bn hne;generalize Av t=nt at *;generalize Ff t=vt at *;clear hne hfr
     go_wp2
     go_roundw
     case rel=>exact⟨q+1,by omega,by go_num,HN,HB5⟩
     simp[intOf];omega
    have hqe:q=k:=by omega
    subst hqe;have HN:Hid (Pd ms (q+1)=true):=pO ht.out (HA hfr.out);have HLN:Hid (∀j t,q+1=j+1->ms[j]?=some t->nm=Av t):=by
     intro j t hj htt;have e:q=j:=Nat.succ.inj hj;subst e;rw[HX.out]at htt;cases htt
     exact HNM.out.symm
    clear hfr HA HF ht
    go_wp2
    go_roundw
    case rel=>exact⟨q+1,nm,by omega,by go_num,rfl,HN,HLN,hbq⟩
    simp[intOf];omega
  have hke:k=ms.length:=by omega
  subst hke;have HC:Hid (Oh ms=true):=by show _=_;rw[HM.out];exact ht.out
  clear ht
  go_wp2
  go_ret;exact⟨Ab HC.out.symm,hb.out⟩
 have HM:Hid (Oh ms=false):=by show _=_;simp[Oh,h10]
 go_enter func81,ntmps81
 go_wp2
 go_ret;exact⟨Ab HM.out.symm,by go_grown⟩
def Mg(x:Brt):Bool:=P.nameOk x.name&&(P.nameOk x.zone&&(Oh x.marks&&(inB x.room 0 1000&&inB x.hold 0 1000)))
theorem aO(x:Brt)(a2:OA)(c2 lo:Nat)(w:World)(z0:x.name.size<=maxLen)(z1:x.zone.size<=maxLen)(hin:sX lo w a2 x.marks) :
  Calls prog 50 #[.agg (bbA x a2 c2)] w (Rt (.bool (Mg x)) w):=by
 have HI:=iH hin;have Z0:=iH z0;have Z1:=iH z1;have HD:Hid (Mg x=(P.nameOk x.name&&(P.nameOk x.zone&&(Oh x.marks&&(inB x.room 0 1000&&inB x.hold 0 1000))))):=rfl;clear hin z0 z1;generalize Mg x=V at *;go_enter func50,ntmps50;go_wp2_with fail;have HR:=qRa w (bbA x a2 c2) 92 (bbL x a2 c2);have HB:=iH ((Below.refl _ w).alloc nL (Obj.cells (bbA x a2 c2) 92));have HS:Hid (w.heap.size<(w.alloc (Obj.cells (bbA x a2 c2) 92)).heap.size):=by show _<_;simp
 generalize w.alloc (Obj.cells (bbA x a2 c2) 92)=w0 at *;refine(Bj x.name _ Z0).mono ?_;rintro e w1⟨rfl,rfl⟩
 cases h0:P.nameOk x.name with
 |false =>
  have HC:Hid (V=false):=by show _=_;rw[HD.out,h0];rfl
  clear h0 HD
  go_wp2
  go_ret;exact⟨Ab HC.out.symm,HB⟩
 |true =>
 rw[h0,Bool.true_and]at HD;clear h0;have e1:w1.cell? (E w.heap.size 1)=some (Y x.zone):=HR.out 1 _ rfl;go_wp2_with fail;clear e1;refine(Bj x.zone _ Z1).mono ?_;rintro e w1⟨rfl,rfl⟩
 cases h0:P.nameOk x.zone with
 |false =>
  have HC:Hid (V=false):=by show _=_;rw[HD.out,h0];rfl
  clear h0 HD
  go_wp2
  go_ret;exact⟨Ab HC.out.symm,HB⟩
 |true =>
 rw[h0,Bool.true_and]at HD;clear h0;have e2:w1.cell? (E w.heap.size 2)=some (.slice a2 x.marks.length c2):=HR.out 2 _ rfl;go_wp2_with fail;clear e2;refine(bC x.marks a2 c2 lo _ (HI.out.below StrC.holds HB nL)).mono ?_;rintro e w2⟨rfl,hb⟩;have HR2:=iH (Ac HR hb HS);have HB2:=qTH HB hb;clear hb HR HB HS
 cases h0:Oh x.marks with
 |false =>
  have HC:Hid (V=false):=by show _=_;rw[HD.out,h0];rfl
  clear h0 HD
  go_wp2
  go_ret;exact⟨Ab HC.out.symm,HB2⟩
 |true =>
 rw[h0,Bool.true_and]at HD;clear h0;have e3:w2.cell? (E w.heap.size 3)=some (X x.room):=HR2.out 3 _ rfl;go_wp2_with fail;clear e3;refine(Fe _ _ _ _).mono ?_;rintro e w3⟨rfl,rfl⟩
 cases h0:inB x.room 0 1000 with
 |false =>
  have HC:Hid (V=false):=by show _=_;rw[HD.out,h0];rfl
  clear h0 HD
  go_wp2
  go_ret;exact⟨Ab HC.out.symm,HB2⟩
 |true =>
 rw[h0,Bool.true_and]at HD;clear h0;have e4:w3.cell? (E w.heap.size 4)=some (X x.hold):=HR2.out 4 _ rfl;go_wp2_with fail;clear e4;refine(Fe _ _ _ _).mono ?_;rintro e w3⟨rfl,rfl⟩;generalize inB x.hold 0 1000=bb at *
 go_wp2
 go_ret;exact⟨Ab HD.out.symm,HB2⟩
def Rm(xs:List Svc)(s:BA):Int:=match xs.findIdx? (λb=>decide (b.name=s))with
 |some k=>k
 |none=>-1
theorem vO{bs:List Svc}{s:BA}{k:Nat}{x:Svc}(hk:bs[k]?=some x)(h:x.name=s)(ho:∀j b,j<k->bs[j]?=some b->b.name≠s):Rm bs s=k:=by
 have:bs.findIdx? (λb=>decide (b.name=s))=some k:=by
  rw[List.findIdx?_eq_some_iff_getElem];obtain⟨hlt,hx⟩:=List.getElem?_eq_some_iff.mp hk;refine⟨hlt,by rw[hx];exact decide_eq_true h,λj hj=>?_⟩;have:=ho j bs[j] hj (gE (by omega));simpa using this
 unfold Rm;rw[this]
theorem qT{bs:List Svc}{s:BA}(ho:∀j b,j<bs.length->bs[j]?=some b->b.name≠s):Rm bs s=-1:=by
 have:bs.findIdx? (λb=>decide (b.name=s))=none:=by
  rw[List.findIdx?_eq_none_iff];intro b hb;obtain⟨j,hj,e⟩:=List.mem_iff_getElem.mp hb;have:=ho j b hj (by rw[gE hj,e]);simpa using this
 unfold Rm;rw[this]
theorem aN(x:Flt)(a1:OA)(c1:Nat)(a2:OA)(c2:Nat)(a3:OA)(c3:Nat)(lo:Nat)(s:BA)(w:World)(n1:sV lo w a2 x.services)(hl:x.services.length<=1048576) :
  Calls prog 47 #[.agg (ffA x a1 c1 a2 c2 a3 c3),Y s] w (Rt (X (Rm x.services s)) w):=by
 have HI:=iH n1;clear n1
 try unfold ffA
 generalize hbs:x.services=bs at *;clear hbs;go_enter func47,ntmps47
 go_wp2
 go_loopw [5] (λi wr=>∃k:Nat,k<=bs.length/\i=X k/\wr.cell? (E w.heap.size 2)=some (.slice a2 bs.length c2)/\Hid (∀j b,j<k->bs[j]?=some b->b.name≠s)/\bW w wr) (λi _=>bs.length-(intOf i).toNat)
 case atStart=>exact⟨0,zL,rfl,by simp,λj b h=>by omega,by go_grown⟩
 obtain⟨k,hk,rfl,hcell,ho,hbel⟩:=hrel;by_cases hlt:k<bs.length
 .obtain⟨y,hx⟩:∃x,bs[k]?=some x:=⟨bs[k],gE hlt⟩
  obtain⟨b,o,rfl,_,_,hc⟩:=(HI.out.below SvcC.holds hbel nL).at hx;obtain⟨q0,q1,z0⟩:=hc;simp only[Nat.add_zero]at q0;have HX:=iH hx;clear hx q1 z0;by_cases h:y.name=s
  .have HZ:Hid (Rm bs s=k):=vO HX h ho.out
   have ht:=Bm h;clear h
   go_wp2
   go_ret;exact⟨Al HZ.out.symm,hbel⟩
  have ht:=Bn h
  go_wp2
  go_roundw
  case rel =>
   refine⟨k+1,by omega,by go_num,hcell,?_,hbel⟩;intro j y hj hy;by_cases e:j=k
   .subst e
    rw[HX.out]at hy;cases hy
    exact h
   exact ho.out j y (by omega) hy
  simp[intOf];omega
 have hke:k=bs.length:=by omega
 have HZ:Hid (Rm bs s=-1):=qT (hke▸ho.out)
 go_wp2
 go_ret;exact⟨Al HZ.out.symm,hbel⟩
def Gj(cs:List Cpy)(s:BA):Nat->Nat
 |0=>0
 |k+1=>match cs[k]? with
  |some c=>if c.at_=s then Gj cs s k+1 else Gj cs s k
  |none=>Gj cs s k
theorem iD(cs:List Cpy)(s:BA):∀k,Gj cs s k<=k
 |0=>Nat.le_refl _
 |k+1=>by
  have:=iD cs s k;unfold Gj
  split
  .split<;>omega
  omega
theorem lF(x:Flt)(a1:OA)(c1:Nat)(a2:OA)(c2:Nat)(a3:OA)(c3:Nat)(lo:Nat)(s:BA)(w:World)(n1:sC lo w a3 x.copies)(hl:x.copies.length<=1048576) :
  Calls prog 51 #[.agg (ffA x a1 c1 a2 c2 a3 c3),Y s] w (Rt (X (Gj x.copies s x.copies.length)) w):=by
 have HI:=iH n1;clear n1
 try unfold ffA
 generalize hbs:x.copies=bs at *;clear hbs;go_enter func51,ntmps51
 go_wp2
 go_loopw [5,6] (λv i wr=>∃(k c:Nat),k<=bs.length/\i=X k/\v=X c/\c<=k/\Hid (c=Gj bs s k)/\wr.cell? (E w.heap.size 3)=some (.slice a3 bs.length c3)/\bW w wr) (λ_ i _=>bs.length-(intOf i).toNat)
 case atStart=>exact⟨0,0,zL,rfl,rfl,Nat.le_refl _,rfl,by simp,by go_grown⟩
 obtain⟨k,c,hk,rfl,rfl,hck,hcc,hcell,hbel⟩:=hrel;by_cases hlt:k<bs.length
 .obtain⟨y,hx⟩:∃x,bs[k]?=some x:=⟨bs[k],gE hlt⟩
  obtain⟨b,o,rfl,_,_,hc⟩:=(HI.out.below CpyC.holds hbel nL).at hx;obtain⟨a7,c7,q0,q1,q2,q3,q4,q5,q6,q7,q8,q9,q10,q11,_⟩:=hc;have HX:=iH hx;clear hx q0 q1 q2 q3 q4 q5 q6 q7 q8 q9 q10;by_cases h:y.at_=s
  .have HN:Hid (c+1=Gj bs s (k+1)):=by show _=_;simp only[Gj,HX.out,if_pos h,<-hcc.out]
   have ht:=Bm h;clear h hcc
   go_wp2
   go_roundw
   case rel=>exact⟨k+1,c+1,by omega,by go_num,by go_num,by omega,HN,hcell,hbel⟩
   simp[intOf];omega
  have HN:Hid (c=Gj bs s (k+1)):=by show _=_;simp only[Gj,HX.out,if_neg h,<-hcc.out]
  have ht:=Bn h;clear hcc
  go_wp2
  go_roundw
  case rel=>exact⟨k+1,c,by omega,by go_num,rfl,by omega,HN,hcell,hbel⟩
  simp[intOf];omega
 have hke:k=bs.length:=by omega
 subst hke
 go_wp2
 go_ret;exact⟨Al (by rw[hcc.out]),hbel⟩
end Go.Proofs.YthboopnmbglkjaaGreat
