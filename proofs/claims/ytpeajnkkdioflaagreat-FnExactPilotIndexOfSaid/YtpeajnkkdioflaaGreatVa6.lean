import Derived.Test.YtpeajnkkdioflaaGreatJ23
set_option maxHeartbeats 1000000
set_option maxRecDepth 100000
namespace Go.Proofs.YtpeajnkkdioflaaGreat
open Go.RowKit Go.WideMaps Go.Maps
theorem Au {ns:List ByteArray} {m n l:Nat} {w:World} {s:ByteArray} (h:w.ownsMap Tryz.prog 9 (plainElem Tryz.prog 3) m n (Af ns l)) (hs:s.size≤maxLen) :
  (Instr.lookup 160 (.map (some m)) (.string s) true).run Tryz.prog w=.ok (.tuple #[.int .i64 (((Ba ns s l).getD 0:Nat):Int),.bool (Ba ns s l).isSome]) w:=by
 have hkey:keyOf Tryz.prog 9 (.string s)=some (kOf s):=keyOf_string_mk Tryz.underlying9 hs;obtain ⟨v,ps,hrun,hv⟩:=h.look_ok Cx Tryz.underlying160 (Gk w) (plainElem_int Tryz.underlying3 (a:=0) (by decide)) hkey;obtain ⟨c,rfl,hc,_⟩:=plainElem_int_inv Tryz.underlying3 hv;have h1:=congrArg Prod.fst hc;simp only at h1;have h3:=h1.symm.trans (Mj ns s l);have h5:c=(((Ba ns s l).getD 0:Nat):Int):=by simpa using h3
 rw [hrun,h5,Jz ns s l]
def Fn (x:Flt) (c:Cpy):Bool :=
 (Ba (x.services.map (·.name)) c.service x.services.length).isSome && ((Ba (x.berths.map (·.name)) c.at_ x.berths.length).isSome || decide (c.at_.size=0)) && Bs c
def Bo (x:Flt):Bool:=x.copies.all (Fn x)
theorem Yd (p:Nat) (x:Flt) (a3:Option Addr) (c3:Nat) (m1 m2:Nat) (lo:Nat) (w:World) (p3:w.cell? ⟨p,3,none⟩=some (.slice a3 x.copies.length c3)) (p4:w.cell? ⟨p,4,none⟩=some (.map (some m1))) (p5:w.cell? ⟨p,5,none⟩=some (.map (some m2)))
  (o1:w.ownsMap Tryz.prog 9 (plainElem Tryz.prog 3) m1 x.berths.length (Af (x.berths.map (·.name)) x.berths.length)) (o2:w.ownsMap Tryz.prog 9 (plainElem Tryz.prog 3) m2 x.services.length (Af (x.services.map (·.name)) x.services.length)) (n3:SliceC CpyC 12 lo w a3 x.copies) (l3:x.copies.length≤1048576) :
  Calls Tryz.prog 108 #[.pointer (some ⟨p,0,none⟩)] w fun e w'=>e=.returned (.bool (Bo x))∧Below w.heap.size w w':=by
 have N3:Hid (SliceC CpyC 12 lo w a3 x.copies):=n3;have O1:=iH o1;have O2:=iH o2;have hpl:p<w.heap.size:=block_lt_of_cell p3;have hm1:m1<w.heap.size:=o1.lt;have hm2:m2<w.heap.size:=o2.lt;have P4:=iH p4;have P5:=iH p5;clear n3 o1 o2 p4 p5;go_enter Tryz.func108,Tryz.ntmps108;go_wp2_with fail;go_loopw [15] (fun i wr=>∃ k:Nat,k≤x.copies.length∧i=.int .i64 k∧Hid (∀ j y,j<k→x.copies[j]?=some y→Fn x y=true)∧Below w.heap.size w wr) (fun i _=>x.copies.length - (intOf i).toNat)
 case atStart=>exact ⟨0,Nat.zero_le _,rfl,fun j y h=>absurd h (Nat.not_lt_zero _),by go_grown⟩
 case round =>
  obtain ⟨k,hk,rfl,ho,hbel⟩:=hrel;by_cases hlt:k<x.copies.length
  ·obtain ⟨y,hy⟩:∃ y,x.copies[k]?=some y:=⟨x.copies[k],List.getElem?_eq_getElem hlt⟩
   obtain ⟨b,o,rfl,_,_,hc⟩:=(N3.out.below CpyC.holds hbel nL).at hy;obtain ⟨a7,c7,q0,q1,q2,q3,q4,q5,q6,q7,q8,q9,q10,q11,z0,z1,z6,z9,z10,z11,z7⟩:=hc;simp only [Nat.add_zero] at q0 q1 q2 q3 q4 q5 q6 q7 q8 q9 q10 q11;have Z1:Hid (y.service.size≤maxLen):=z1;have Z6:Hid (y.select.size≤maxLen):=z6;have Z9:Hid (y.near.size≤maxLen):=z9;have Z10:Hid (y.fixed.size≤maxLen):=z10;have Z11:Hid (y.at_.size≤maxLen):=z11;have Z7:=iH z7;have HRA:Hid (wr.rangeAt b (o+k*12) [.string y.name,.string y.service,.int .i64 y.rank,.int .i64 y.born,.int .i64 y.room,.int .i64 y.hold,.string y.select,.slice a7 y.likes.length c7,.int .i64 y.apart,.string y.near,.string y.fixed,.string y.at_]):=Aa q0 (Aa q1 (Aa q2 (Aa q3 (Aa q4 (Aa q5 (Aa q6 (Aa q7 (Aa q8 (Aa q9 (Aa q10 (Aa q11 (Aj _ _ _))))))))))));have HX:Hid (x.copies[k]?=some y):=hy;have HB:Hid (Below w.heap.size w wr):=hbel;clear hy hbel q0 q1 q2 q3 q4 q5 q6 q7 q8 q9 q10 q11 z0 z1 z6 z7 z9 z10 z11;go_upto_region 4 with (first | (refine wpList_load_mid rfl 83 _ rfl b (o+k*12) (by first | rfl | (simp [go_sem];done)) [.string y.name,.string y.service,.int .i64 y.rank,.int .i64 y.born,.int .i64 y.room,.int .i64 y.hold,.string y.select,.slice a7 y.likes.length c7,.int .i64 y.apart,.string y.near,.string y.fixed,.string y.at_] _ HRA.out Tryz.underlying83 rfl Ca ?_));have HG:Hid ((wr.alloc (Obj.cells #[.string y.name,.string y.service,.int .i64 y.rank,.int .i64 y.born,.int .i64 y.room,.int .i64 y.hold,.string y.select,.slice a7 y.likes.length c7,.int .i64 y.apart,.string y.near,.string y.fixed,.string y.at_] 83)).rangeAt wr.heap.size 0 [.string y.name,.string y.service,.int .i64 y.rank,.int .i64 y.born,.int .i64 y.room,.int .i64 y.hold,.string y.select,.slice a7 y.likes.length c7,.int .i64 y.apart,.string y.near,.string y.fixed,.string y.at_]):=Aa (by simp) (Aa (by simp) (Aa (by simp) (Aa (by simp) (Aa (by simp) (Aa (by simp) (Aa (by simp) (Aa (by simp) (Aa (by simp) (Aa (by simp) (Aa (by simp) (Aa (by simp) (Aj _ _ _))))))))))));have HB4:Hid (Below w.heap.size w (wr.alloc (Obj.cells #[.string y.name,.string y.service,.int .i64 y.rank,.int .i64 y.born,.int .i64 y.room,.int .i64 y.hold,.string y.select,.slice a7 y.likes.length c7,.int .i64 y.apart,.string y.near,.string y.fixed,.string y.at_] 83))):=HB.out.alloc HB.out.size _;have HS4:Hid (wr.heap.size<(wr.alloc (Obj.cells #[.string y.name,.string y.service,.int .i64 y.rank,.int .i64 y.born,.int .i64 y.room,.int .i64 y.hold,.string y.select,.slice a7 y.likes.length c7,.int .i64 y.apart,.string y.near,.string y.fixed,.string y.at_] 83)).heap.size):=by show _<_;simp
   have Z74:Hid (SliceC LikC 2 lo (wr.alloc (Obj.cells #[.string y.name,.string y.service,.int .i64 y.rank,.int .i64 y.born,.int .i64 y.room,.int .i64 y.hold,.string y.select,.slice a7 y.likes.length c7,.int .i64 y.apart,.string y.near,.string y.fixed,.string y.at_] 83)) a7 y.likes):=Z7.out.below LikC.holds ((Below.refl _ _).alloc nL _) nL;clear HB HRA Z7;generalize wr.alloc (Obj.cells #[.string y.name,.string y.service,.int .i64 y.rank,.int .i64 y.born,.int .i64 y.room,.int .i64 y.hold,.string y.select,.slice a7 y.likes.length c7,.int .i64 y.apart,.string y.near,.string y.fixed,.string y.at_] 83)=w4 at *;have OA:=iH (Ak O1.out HB4.out hm1);have OB:=iH (Ak O2.out HB4.out hm2);have PA:Hid (w4.cell? ⟨p,4,none⟩=some (.map (some m1))):=(HB4.out.cell (p:=⟨p,4,none⟩) hpl).trans P4.out;have PB:Hid (w4.cell? ⟨p,5,none⟩=some (.map (some m2))):=(HB4.out.cell (p:=⟨p,5,none⟩) hpl).trans P5.out;refine wp_region_held_drew (S:=fun wy=>wy.rangeAt wr.heap.size 0 [.string y.name,.string y.service,.int .i64 y.rank,.int .i64 y.born,.int .i64 y.room,.int .i64 y.hold,.string y.select,.slice a7 y.likes.length c7,.int .i64 y.apart,.string y.near,.string y.fixed,.string y.at_]∧wy.cell? ⟨p,5,none⟩=some (.map (some m2))∧wy.ownsMap Tryz.prog 9 (plainElem Tryz.prog 3) m2 x.services.length (Af (x.services.map (·.name)) x.services.length)) (by kernel_rfl) ⟨Bk HG.out,by simpa using PB.out,OB.out.drew⟩ (fun hS=>?_);refine ty 0 ⟨some 20,_,_,_,_,none⟩ (.pointer (some ⟨p,0,none⟩)) rfl (by rfl) ?_ hS ?_
   ·intro wy hy
    obtain ⟨yr,yc,yo⟩:=hy;have y1:wy.cell? ⟨wr.heap.size,1,none⟩=some (.string y.service):=yr 1 _ rfl;have yl:=Au (s:=y.service) yo Z1.out;clear yr yo;go_simp
   simp only [pA,pB,pC,pD];refine ty 1 ⟨some 21,_,_,_,_,none⟩ (.pointer (some ⟨p,0,none⟩)) rfl (by rfl) ?_ hS ?_
   ·intro wy hy
    obtain ⟨yr,yc,yo⟩:=hy;have y1:wy.cell? ⟨wr.heap.size,1,none⟩=some (.string y.service):=yr 1 _ rfl;have yl:=Au (s:=y.service) yo Z1.out;clear yr yo;go_simp
   simp only [pA,pB,pC,pD];refine ty 2 ⟨some 22,_,_,_,_,none⟩ (.pointer (some ⟨p,5,none⟩)) rfl (by rfl) ?_ hS ?_
   ·intro wy hy
    obtain ⟨yr,yc,yo⟩:=hy;have y1:wy.cell? ⟨wr.heap.size,1,none⟩=some (.string y.service):=yr 1 _ rfl;have yl:=Au (s:=y.service) yo Z1.out;clear yr yo;go_simp
   simp only [pA,pB,pC,pD];refine ty 3 ⟨some 23,_,_,_,_,none⟩ (.map (some m2)) rfl (by rfl) ?_ hS ?_
   ·intro wy hy
    obtain ⟨yr,yc,yo⟩:=hy;have y1:wy.cell? ⟨wr.heap.size,1,none⟩=some (.string y.service):=yr 1 _ rfl;have yl:=Au (s:=y.service) yo Z1.out;clear yr yo;go_simp
   simp only [pA,pB,pC,pD];refine ty 4 ⟨some 24,_,_,_,_,none⟩ (.pointer (some ⟨wr.heap.size,1,none⟩)) rfl (by rfl) ?_ hS ?_
   ·intro wy hy
    obtain ⟨yr,yc,yo⟩:=hy;have y1:wy.cell? ⟨wr.heap.size,1,none⟩=some (.string y.service):=yr 1 _ rfl;have yl:=Au (s:=y.service) yo Z1.out;clear yr yo;go_simp
   simp only [pA,pB,pC,pD];refine ty 5 ⟨some 25,_,_,_,_,none⟩ (.string y.service) rfl (by rfl) ?_ hS ?_
   ·intro wy hy
    obtain ⟨yr,yc,yo⟩:=hy;have y1:wy.cell? ⟨wr.heap.size,1,none⟩=some (.string y.service):=yr 1 _ rfl;have yl:=Au (s:=y.service) yo Z1.out;clear yr yo;go_simp
   simp only [pA,pB,pC,pD];refine ty 6 ⟨some 26,_,_,_,_,none⟩ (.tuple #[.int .i64 (((Ba (x.services.map (·.name)) y.service x.services.length).getD 0:Nat):Int),.bool (Ba (x.services.map (·.name)) y.service x.services.length).isSome]) rfl (by rfl) ?_ hS ?_
   ·intro wy hy
    obtain ⟨yr,yc,yo⟩:=hy;have y1:wy.cell? ⟨wr.heap.size,1,none⟩=some (.string y.service):=yr 1 _ rfl;have yl:=Au (s:=y.service) yo Z1.out;clear yr yo;go_simp
   simp only [pA,pB,pC,pD];refine ty 7 ⟨some 19,_,_,_,_,none⟩ (.tuple #[.int .i64 (((Ba (x.services.map (·.name)) y.service x.services.length).getD 0:Nat):Int),.bool (Ba (x.services.map (·.name)) y.service x.services.length).isSome]) rfl (by rfl) ?_ hS ?_
   ·intro wy hy
    obtain ⟨yr,yc,yo⟩:=hy;have y1:wy.cell? ⟨wr.heap.size,1,none⟩=some (.string y.service):=yr 1 _ rfl;have yl:=Au (s:=y.service) yo Z1.out;clear yr yo;go_simp
   simp only [pA,pB,pC,pD];refine ty 8 ⟨some 27,_,_,_,_,none⟩ (.int .i64 (((Ba (x.services.map (·.name)) y.service x.services.length).getD 0:Nat):Int)) rfl (by rfl) ?_ hS ?_
   ·intro wy hy
    obtain ⟨yr,yc,yo⟩:=hy;have y1:wy.cell? ⟨wr.heap.size,1,none⟩=some (.string y.service):=yr 1 _ rfl;have yl:=Au (s:=y.service) yo Z1.out;clear yr yo;go_simp
   simp only [pA,pB,pC,pD];refine ty 9 ⟨some 28,_,_,_,_,none⟩ (.bool (Ba (x.services.map (·.name)) y.service x.services.length).isSome) rfl (by rfl) ?_ hS ?_
   ·intro wy hy
    obtain ⟨yr,yc,yo⟩:=hy;have y1:wy.cell? ⟨wr.heap.size,1,none⟩=some (.string y.service):=yr 1 _ rfl;have yl:=Au (s:=y.service) yo Z1.out;clear yr yo;go_simp
   simp only [pA,pB,pC,pD];refine ty 10 ⟨some 5,_,_,_,_,none⟩ (.int .i64 (((Ba (x.services.map (·.name)) y.service x.services.length).getD 0:Nat):Int)) rfl (by rfl) ?_ hS ?_
   ·intro wy hy
    obtain ⟨yr,yc,yo⟩:=hy;have y1:wy.cell? ⟨wr.heap.size,1,none⟩=some (.string y.service):=yr 1 _ rfl;have yl:=Au (s:=y.service) yo Z1.out;clear yr yo;go_simp
   simp only [pA,pB,pC,pD];refine ty 11 ⟨some 6,_,_,_,_,none⟩ (.bool (Ba (x.services.map (·.name)) y.service x.services.length).isSome) rfl (by rfl) ?_ hS ?_
   ·intro wy hy
    obtain ⟨yr,yc,yo⟩:=hy;have y1:wy.cell? ⟨wr.heap.size,1,none⟩=some (.string y.service):=yr 1 _ rfl;have yl:=Au (s:=y.service) yo Z1.out;clear yr yo;go_simp
   simp only [pA,pB,pC,pD];refine td ?_;have HG5:Hid (w4.drew.rangeAt wr.heap.size 0 [.string y.name,.string y.service,.int .i64 y.rank,.int .i64 y.born,.int .i64 y.room,.int .i64 y.hold,.string y.select,.slice a7 y.likes.length c7,.int .i64 y.apart,.string y.near,.string y.fixed,.string y.at_]):=Bk HG.out;have HB5:Hid (Below w.heap.size w w4.drew):=HB4.out.drew;have HS5:Hid (wr.heap.size<w4.drew.heap.size):=HS4.out;have Z75:Hid (SliceC LikC 2 lo w4.drew a7 y.likes):=Z74.out.below LikC.holds (B:=w4.heap.size) (Below.refl _ _).drew nL;have OA5:=iH OA.out.drew;have PA5:Hid (w4.drew.cell? ⟨p,4,none⟩=some (.map (some m1))):=by show _=_;simpa using PA.out
   clear HG HB4 HS4 Z74 OA OB PA PB;generalize w4.drew=w5 at *;have HG:=HG5;clear HG5;go_upto_region 5 with fail;refine wp_region_held_drew (S:=fun wy=>wy.rangeAt wr.heap.size 0 [.string y.name,.string y.service,.int .i64 y.rank,.int .i64 y.born,.int .i64 y.room,.int .i64 y.hold,.string y.select,.slice a7 y.likes.length c7,.int .i64 y.apart,.string y.near,.string y.fixed,.string y.at_]∧wy.cell? ⟨p,4,none⟩=some (.map (some m1))∧wy.ownsMap Tryz.prog 9 (plainElem Tryz.prog 3) m1 x.berths.length (Af (x.berths.map (·.name)) x.berths.length)) (by kernel_rfl) ⟨Bk HG.out,by simpa using PA5.out,OA5.out.drew⟩ (fun hS=>?_);refine ty 0 ⟨some 30,_,_,_,_,none⟩ (.pointer (some ⟨p,0,none⟩)) rfl (by rfl) ?_ hS ?_
   ·intro wy hy
    obtain ⟨yr,yc,yo⟩:=hy;have y11:wy.cell? ⟨wr.heap.size,11,none⟩=some (.string y.at_):=yr 11 _ rfl;have yl:=Au (s:=y.at_) yo Z11.out;clear yr yo;go_simp
   simp only [pA,pB,pC,pD];refine ty 1 ⟨some 31,_,_,_,_,none⟩ (.pointer (some ⟨p,0,none⟩)) rfl (by rfl) ?_ hS ?_
   ·intro wy hy
    obtain ⟨yr,yc,yo⟩:=hy;have y11:wy.cell? ⟨wr.heap.size,11,none⟩=some (.string y.at_):=yr 11 _ rfl;have yl:=Au (s:=y.at_) yo Z11.out;clear yr yo;go_simp
   simp only [pA,pB,pC,pD];refine ty 2 ⟨some 32,_,_,_,_,none⟩ (.pointer (some ⟨p,4,none⟩)) rfl (by rfl) ?_ hS ?_
   ·intro wy hy
    obtain ⟨yr,yc,yo⟩:=hy;have y11:wy.cell? ⟨wr.heap.size,11,none⟩=some (.string y.at_):=yr 11 _ rfl;have yl:=Au (s:=y.at_) yo Z11.out;clear yr yo;go_simp
   simp only [pA,pB,pC,pD];refine ty 3 ⟨some 33,_,_,_,_,none⟩ (.map (some m1)) rfl (by rfl) ?_ hS ?_
   ·intro wy hy
    obtain ⟨yr,yc,yo⟩:=hy;have y11:wy.cell? ⟨wr.heap.size,11,none⟩=some (.string y.at_):=yr 11 _ rfl;have yl:=Au (s:=y.at_) yo Z11.out;clear yr yo;go_simp
   simp only [pA,pB,pC,pD];refine ty 4 ⟨some 34,_,_,_,_,none⟩ (.pointer (some ⟨wr.heap.size,11,none⟩)) rfl (by rfl) ?_ hS ?_
   ·intro wy hy
    obtain ⟨yr,yc,yo⟩:=hy;have y11:wy.cell? ⟨wr.heap.size,11,none⟩=some (.string y.at_):=yr 11 _ rfl;have yl:=Au (s:=y.at_) yo Z11.out;clear yr yo;go_simp
   simp only [pA,pB,pC,pD];refine ty 5 ⟨some 35,_,_,_,_,none⟩ (.string y.at_) rfl (by rfl) ?_ hS ?_
   ·intro wy hy
    obtain ⟨yr,yc,yo⟩:=hy;have y11:wy.cell? ⟨wr.heap.size,11,none⟩=some (.string y.at_):=yr 11 _ rfl;have yl:=Au (s:=y.at_) yo Z11.out;clear yr yo;go_simp
   simp only [pA,pB,pC,pD];refine ty 6 ⟨some 36,_,_,_,_,none⟩ (.tuple #[.int .i64 (((Ba (x.berths.map (·.name)) y.at_ x.berths.length).getD 0:Nat):Int),.bool (Ba (x.berths.map (·.name)) y.at_ x.berths.length).isSome]) rfl (by rfl) ?_ hS ?_
   ·intro wy hy
    obtain ⟨yr,yc,yo⟩:=hy;have y11:wy.cell? ⟨wr.heap.size,11,none⟩=some (.string y.at_):=yr 11 _ rfl;have yl:=Au (s:=y.at_) yo Z11.out;clear yr yo;go_simp
   simp only [pA,pB,pC,pD];refine ty 7 ⟨some 29,_,_,_,_,none⟩ (.tuple #[.int .i64 (((Ba (x.berths.map (·.name)) y.at_ x.berths.length).getD 0:Nat):Int),.bool (Ba (x.berths.map (·.name)) y.at_ x.berths.length).isSome]) rfl (by rfl) ?_ hS ?_
   ·intro wy hy
    obtain ⟨yr,yc,yo⟩:=hy;have y11:wy.cell? ⟨wr.heap.size,11,none⟩=some (.string y.at_):=yr 11 _ rfl;have yl:=Au (s:=y.at_) yo Z11.out;clear yr yo;go_simp
   simp only [pA,pB,pC,pD];refine ty 8 ⟨some 37,_,_,_,_,none⟩ (.int .i64 (((Ba (x.berths.map (·.name)) y.at_ x.berths.length).getD 0:Nat):Int)) rfl (by rfl) ?_ hS ?_
   ·intro wy hy
    obtain ⟨yr,yc,yo⟩:=hy;have y11:wy.cell? ⟨wr.heap.size,11,none⟩=some (.string y.at_):=yr 11 _ rfl;have yl:=Au (s:=y.at_) yo Z11.out;clear yr yo;go_simp
   simp only [pA,pB,pC,pD];refine ty 9 ⟨some 38,_,_,_,_,none⟩ (.bool (Ba (x.berths.map (·.name)) y.at_ x.berths.length).isSome) rfl (by rfl) ?_ hS ?_
   ·intro wy hy
    obtain ⟨yr,yc,yo⟩:=hy;have y11:wy.cell? ⟨wr.heap.size,11,none⟩=some (.string y.at_):=yr 11 _ rfl;have yl:=Au (s:=y.at_) yo Z11.out;clear yr yo;go_simp
   simp only [pA,pB,pC,pD];refine ty 10 ⟨some 7,_,_,_,_,none⟩ (.int .i64 (((Ba (x.berths.map (·.name)) y.at_ x.berths.length).getD 0:Nat):Int)) rfl (by rfl) ?_ hS ?_
   ·intro wy hy
    obtain ⟨yr,yc,yo⟩:=hy;have y11:wy.cell? ⟨wr.heap.size,11,none⟩=some (.string y.at_):=yr 11 _ rfl;have yl:=Au (s:=y.at_) yo Z11.out;clear yr yo;go_simp
   simp only [pA,pB,pC,pD];refine ty 11 ⟨some 8,_,_,_,_,none⟩ (.bool (Ba (x.berths.map (·.name)) y.at_ x.berths.length).isSome) rfl (by rfl) ?_ hS ?_
   ·intro wy hy
    obtain ⟨yr,yc,yo⟩:=hy;have y11:wy.cell? ⟨wr.heap.size,11,none⟩=some (.string y.at_):=yr 11 _ rfl;have yl:=Au (s:=y.at_) yo Z11.out;clear yr yo;go_simp
   simp only [pA,pB,pC,pD];refine td ?_;have HG5:Hid (w5.drew.rangeAt wr.heap.size 0 [.string y.name,.string y.service,.int .i64 y.rank,.int .i64 y.born,.int .i64 y.room,.int .i64 y.hold,.string y.select,.slice a7 y.likes.length c7,.int .i64 y.apart,.string y.near,.string y.fixed,.string y.at_]):=Bk HG.out;have HB6:Hid (Below w.heap.size w w5.drew):=HB5.out.drew;have Z76:Hid (SliceC LikC 2 lo w5.drew a7 y.likes):=Z75.out.below LikC.holds (B:=w5.heap.size) (Below.refl _ _).drew nL;clear HG HB5 HS5 Z75 OA5 PA5;generalize w5.drew=w6 at *;have HSA:Hid (Fn x y=((Ba (x.services.map (·.name)) y.service x.services.length).isSome && ((Ba (x.berths.map (·.name)) y.at_ x.berths.length).isSome || decide (y.at_.size=0)) && Bs y)):=rfl;have bad:Hid (Fn x y=false→Bo x=false):=fun h=>List.all_eq_false.mpr ⟨y,List.mem_of_getElem? HX.out,by simp [h]⟩
   generalize (Ba (x.services.map (·.name)) y.service x.services.length).isSome=B1 at *;generalize (Ba (x.berths.map (·.name)) y.at_ x.berths.length).isSome=B2 at *;generalize (((Ba (x.services.map (·.name)) y.service x.services.length).getD 0:Nat):Int)=I1 at *;generalize (((Ba (x.berths.map (·.name)) y.at_ x.berths.length).getD 0:Nat):Int)=I2 at *;have e0:w6.cell? ⟨wr.heap.size,0,none⟩=some (.string y.name):=HG5.out 0 _ rfl;have e1:w6.cell? ⟨wr.heap.size,1,none⟩=some (.string y.service):=HG5.out 1 _ rfl;have e2:w6.cell? ⟨wr.heap.size,2,none⟩=some (.int .i64 y.rank):=HG5.out 2 _ rfl;have e3:w6.cell? ⟨wr.heap.size,3,none⟩=some (.int .i64 y.born):=HG5.out 3 _ rfl;have e4:w6.cell? ⟨wr.heap.size,4,none⟩=some (.int .i64 y.room):=HG5.out 4 _ rfl;have e5:w6.cell? ⟨wr.heap.size,5,none⟩=some (.int .i64 y.hold):=HG5.out 5 _ rfl;have e6:w6.cell? ⟨wr.heap.size,6,none⟩=some (.string y.select):=HG5.out 6 _ rfl;have e7:w6.cell? ⟨wr.heap.size,7,none⟩=some (.slice a7 y.likes.length c7):=HG5.out 7 _ rfl;have e8:w6.cell? ⟨wr.heap.size,8,none⟩=some (.int .i64 y.apart):=HG5.out 8 _ rfl;have e9:w6.cell? ⟨wr.heap.size,9,none⟩=some (.string y.near):=HG5.out 9 _ rfl;have e10:w6.cell? ⟨wr.heap.size,10,none⟩=some (.string y.fixed):=HG5.out 10 _ rfl;have e11:w6.cell? ⟨wr.heap.size,11,none⟩=some (.string y.at_):=HG5.out 11 _ rfl;cases B1
   ·have HC:Hid (Bo x=false):=bad.out (by rw [HSA.out];rfl)
    clear ho bad HSA;go_wp2_with fail;go_ret;exact ⟨Ae HC.out.symm,HB6.out⟩
   ·cases B2
    ·by_cases he:y.at_=⟨#[]⟩
     ·have hsz:Hid (y.at_.size=0):=by show _=_;rw [he];rfl
      have hte:y.at_.toList=[]:=by rw [he];simp
      clear he;go_wp2_with fail;refine (Oc y a7 c7 lo _ Z6.out Z76.out Z9.out Z10.out).mono ?_;rintro e w7 ⟨rfl,hb7⟩;have HB7:Hid (Below w.heap.size w w7):=HB6.out.trans (hb7.mono HB6.out.size);clear hb7 HB6 e0 e1 e2 e3 e4 e5 e6 e7 e8 e9 e10 e11;cases hcp:Bs y
      ·have HC:Hid (Bo x=false):=bad.out (by rw [HSA.out];simp [hcp])
       clear ho bad HSA hcp;go_wp2_with fail;go_ret;exact ⟨Ae HC.out.symm,HB7.out⟩
      ·have HO:Hid (∀ j z,j<k+1→x.copies[j]?=some z→Fn x z=true):=by
        intro j z hj hz;by_cases e:j=k
        ·subst e
         rw [HX.out] at hz;cases hz
         rw [HSA.out];simp [hcp,hsz.out]
        ·exact ho.out j z (by omega) hz
       clear ho bad HSA hcp;go_wp2_with fail;go_roundw
       case rel=>exact ⟨k+1,by omega,by go_num,HO,HB7.out⟩
       case measure=>simp [intOf];omega
     ·have hsz:¬ y.at_.size=0:=fun e=>he (ByteArray.ext (Array.eq_empty_of_size_eq_zero e))
      have hte:¬ y.at_.toList=[]:=by
       rw [ByteArray.toList_eq];exact fun e=>hsz (by have:=congrArg List.length e;simpa using this)
      have HC:Hid (Bo x=false):=bad.out (by rw [HSA.out];simp [hsz]);clear ho bad HSA he hsz;go_wp2_with fail;go_ret;exact ⟨Ae HC.out.symm,HB6.out⟩
    ·go_wp2_with fail
     refine (Oc y a7 c7 lo _ Z6.out Z76.out Z9.out Z10.out).mono ?_;rintro e w7 ⟨rfl,hb7⟩;have HB7:Hid (Below w.heap.size w w7):=HB6.out.trans (hb7.mono HB6.out.size);clear hb7 HB6 e0 e1 e2 e3 e4 e5 e6 e7 e8 e9 e10 e11;cases hcp:Bs y
     ·have HC:Hid (Bo x=false):=bad.out (by rw [HSA.out];simp [hcp])
      clear ho bad HSA hcp;go_wp2_with fail;go_ret;exact ⟨Ae HC.out.symm,HB7.out⟩
     ·have HO:Hid (∀ j z,j<k+1→x.copies[j]?=some z→Fn x z=true):=by
       intro j z hj hz;by_cases e:j=k
       ·subst e
        rw [HX.out] at hz;cases hz
        rw [HSA.out];simp [hcp]
       ·exact ho.out j z (by omega) hz
      clear ho bad HSA hcp;go_wp2_with fail;go_roundw
      case rel=>exact ⟨k+1,by omega,by go_num,HO,HB7.out⟩
      case measure=>simp [intOf];omega
  ·have hke:k=x.copies.length:=by omega
   subst hke;have HC:Hid (Bo x=true):=by
    show _=_
    simp only [Bo,List.all_eq_true];intro y hy;obtain ⟨j,hj,e⟩:=List.mem_iff_getElem.mp hy;exact ho.out j y hj (by rw [List.getElem?_eq_getElem hj,e])
   clear ho;go_wp2_with fail;go_ret;exact ⟨Ae HC.out.symm,hbel⟩
end Go.Proofs.YtpeajnkkdioflaaGreat
