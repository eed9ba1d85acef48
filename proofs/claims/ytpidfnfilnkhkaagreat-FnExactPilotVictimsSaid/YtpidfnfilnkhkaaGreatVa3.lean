import Derived.Test.YtpidfnfilnkhkaaGreatJ13
set_option maxHeartbeats 4000000
namespace Go.Proofs.YtpidfnfilnkhkaaGreat
open Tryz
set_option maxRecDepth 100000
open Go.RowKit Tryz
def Gl(ns:List BA):Nat->Bool
 |0=>match ns[0]? with
  |none=>true
  |some s=>P.nameOk s
 |m+1=>match ns[m+1]?,ns[m]? with
  |some s,some t=>P.nameOk s&&Op.bytesLess t.toList s.toList
  |_,_=>true
def Cm(ns:List BA):Nat->Bool
 |0=>true
 |k+1=>Cm ns k&&Gl ns k
theorem Es{ns:List BA}{k:Nat}(h:Gl ns k=false):∀n,k<n->Cm ns n=false
 |0,hn=>absurd hn (Nat.not_lt_zero _)
 |n+1,hn=>by
  by_cases e:k=n
  .subst e;simp only[Cm,h,Bool.and_false]
  .simp only[Cm,Es h n (by omega),Bool.false_and]
theorem Ql{ns:List BA}{k:Nat}{s:BA}(h:ns[k]?=some s)(hn:P.nameOk s=false):Gl ns k=false:=by
 cases k with
 |zero=>simp only[Gl,h,hn]
 |succ m =>
  have hl:m+1<ns.length:=(List.getElem?_eq_some_iff.mp h).1;have:ns[m]?=some ns[m]:=gE (by omega);simp only[Gl,h,this,hn,Bool.false_and]
theorem Bt{w:World}{g o:Nat}{l:List Value}(h:w.rangeAt g o l):w.drew.rangeAt g o l:=by
 intro j v hj;have:=h j v hj;simpa using this
theorem kP(xs:List Brt)(a:OA)(cap lo:Nat)(w:World)(hin:SliceC BrtC 6 lo w a xs)(hsm:xs.length<=1048576) :
  Calls prog 125 #[.slice a xs.length cap,.func (.func 100) #[] #[]] w (Rt (.bool (Cm (xs.map (·.name)) xs.length)) w):=by
 have HI:=iH hin;clear hin;go_enter func125,ntmps125
 go_wp2
 go_loopw [9] (λi wr=>∃k:Nat,k<=xs.length/\i=.int .i64 k/\Hid (Cm (xs.map (·.name)) k=true)/\Below w.heap.size w wr) (λi _=>xs.length-(intOf i).toNat)
 case atStart=>exact⟨0,zL,rfl,rfl,by go_grown⟩
 case round =>
  obtain⟨k,hk,rfl,ho,hbel⟩:=hrel;by_cases hlt:k<xs.length
  .obtain⟨x,hx⟩:=gXe hlt
   have HIR:=qSl BrtC.holds HI hbel;obtain⟨b,o,rfl,_,hbl,hc⟩:=HIR.out.at hx;obtain⟨a2,c2,q0,q1,q2,q3,q4,q5,z0,_,_⟩:=hc;simp only[Nat.add_zero]at q0 q1 q2 q3 q4 q5;have HRA:Hid (wr.rangeAt b (o+k*6) (bbL x a2 c2)):=Aa q0 (Aa q1 (Aa q2 (Aa q3 (Aa q4 (Aa q5 (Ao _ _ _))))));have HZ:=iH z0;have HN:Hid ((xs.map (·.name))[k]?=some x.name):=by show _=_;rw[List.getElem?_map,hx];rfl
   have HB:=iH hbel;clear z0 hx hbel q0 q1 q2 q3 q4 q5;go_upto_region 4 with(first|(refine qLr Nz HRA ?_));have HG:=qRa wr (bbA x a2 c2) 52 (bbL x a2 c2);have hal:=(Below.refl _ wr).alloc nL (Obj.cells (bbA x a2 c2) 52);have HBD:Below w.heap.size w (wr.alloc (Obj.cells (bbA x a2 c2) 52)).drew:=HB.out.trans (show Below w.heap.size wr _ from(show Below wr.heap.size wr (wr.alloc (Obj.cells (bbA x a2 c2) 52)).drew by go_grown).mono HB.out.size);cases hnm:P.nameOk x.name
   .have HNM:=iH hnm
    have HC:Hid (Cm (xs.map (·.name)) xs.length=false):=Es (Ql HN hnm) _ hlt;clear hnm hal ho;refine wp_region_held_drew (S:=λwy=>wy.rangeAt wr.heap.size 0 (bbL x a2 c2)/\wy.rangeAt b 0 []) (by kernel_rfl) ⟨Bt HG,Ao _ _ _⟩ (λhS=>?_);have HB4:Hid (Below w.heap.size w (wr.alloc (Obj.cells (bbA x a2 c2) 52)).drew):=HBD;have HS4:Hid (wr.heap.size<(wr.alloc (Obj.cells (bbA x a2 c2) 52)).drew.heap.size):=by show _<_;simp
    clear HG HBD;refine tz 0 14 (.func (.func 100) #[] #[]) ?_;refine tm 1 15 wr.heap.size 0 (bbL x a2 c2) rfl (λ_ h=>h.1) underlying52 Dl hS ?_;refine rd1 2 ⟨some 16,_,_,_,_,none⟩ rfl (λK hK=>?_);go_simp;refine(Fy x a2 c2 _).mono ?_;rintro e w5⟨rfl,hb⟩;have HB5:=qTH HB4 hb;have HS5:Hid (wr.heap.size<w5.heap.size):=lL HS4 hb.size;refine hK.out _ _ ⟨Ae hS.1 hb HS4,Ae hS.2 hb (Nat.lt_trans hbl HS4)⟩ (λhS=>?_);clear hb HB4 HS4;clear hK K;refine rd1 3 ⟨some 17,_,_,_,_,none⟩ rfl (λK hK=>?_);go_simp;refine(Ch _ _ HZ).mono ?_;rintro e w' ⟨rfl,rfl⟩;refine hK.out _ _ hS (λhS=>?_);clear hK K;rw[HNM.out];refine tz 4 18 (.bool true) ?_;refine tz 5 19 (.bool true) ?_;refine ts 6 20 ?_;refine ts 7 21 ?_;refine ts 8 22 ?_;refine ts 9 23 ?_;refine ts 10 24 ?_;refine ts 11 25 ?_;refine ts 12 26 ?_;refine ts 13 27 ?_;refine ts 14 28 ?_;refine ts 15 29 ?_;refine ts 16 30 ?_;refine ts 17 31 ?_;refine ts 18 32 ?_;refine ts 19 33 ?_;refine ts 20 34 ?_;refine tz 21 35 (.bool true) ?_;refine td ?_
    go_wp2
    go_ret;exact⟨Ab HC.out.symm,HB5⟩
   .have HNM:=iH hnm
    cases k with
    |zero =>
     have HC:Hid (Cm (xs.map (·.name)) (0+1)=true):=by show _=_;simp only[Cm,Gl,HN.out,hnm,Bool.and_self]
     clear hnm hal ho;refine wp_region_held_drew (S:=λwy=>wy.rangeAt wr.heap.size 0 (bbL x a2 c2)/\wy.rangeAt b 0 []) (by kernel_rfl) ⟨Bt HG,Ao _ _ _⟩ (λhS=>?_);have HB4:Hid (Below w.heap.size w (wr.alloc (Obj.cells (bbA x a2 c2) 52)).drew):=HBD;have HS4:Hid (wr.heap.size<(wr.alloc (Obj.cells (bbA x a2 c2) 52)).drew.heap.size):=by show _<_;simp
     clear HG HBD;refine tz 0 14 (.func (.func 100) #[] #[]) ?_;refine tm 1 15 wr.heap.size 0 (bbL x a2 c2) rfl (λ_ h=>h.1) underlying52 Dl hS ?_;refine rd1 2 ⟨some 16,_,_,_,_,none⟩ rfl (λK hK=>?_);go_simp;refine(Fy x a2 c2 _).mono ?_;rintro e w5⟨rfl,hb⟩;have HB5:=qTH HB4 hb;have HS5:Hid (wr.heap.size<w5.heap.size):=lL HS4 hb.size;refine hK.out _ _ ⟨Ae hS.1 hb HS4,Ae hS.2 hb (Nat.lt_trans hbl HS4)⟩ (λhS=>?_);clear hb HB4 HS4;clear hK K;refine rd1 3 ⟨some 17,_,_,_,_,none⟩ rfl (λK hK=>?_);go_simp;refine(Ch _ _ HZ).mono ?_;rintro e w' ⟨rfl,rfl⟩;refine hK.out _ _ hS (λhS=>?_);clear hK K;rw[HNM.out];refine tz 4 18 (.bool false) ?_;refine tz 5 19 (.bool false) ?_;refine tz 6 20 (.int .i64 ((0:Nat):Int)) ?_;refine tz 7 21 (.bool false) ?_;refine tz 8 22 (.bool false) ?_;refine ts 9 23 ?_;refine ts 10 24 ?_;refine ts 11 25 ?_;refine ts 12 26 ?_;refine ts 13 27 ?_;refine ts 14 28 ?_;refine ts 15 29 ?_;refine ts 16 30 ?_;refine ts 17 31 ?_;refine ts 18 32 ?_;refine ts 19 33 ?_;refine tz 20 34 (.bool false) ?_;refine tz 21 35 (.bool false) ?_;refine td ?_
     go_wp2
     go_roundw
     case rel=>exact⟨0+1,by omega,by go_num,HC,HB5⟩
     case measure=>simp[intOf];omega
    | succ m =>
     obtain⟨y,hy⟩:∃y,xs[m]?=some y:=⟨xs[m],gE (by omega)⟩;obtain⟨b',o',e',_,_,hc⟩:=HIR.out.at hy;cases e'
     obtain⟨b2,d2,q0,q1,q2,q3,q4,q5,z0,_,_⟩:=hc;simp only[Nat.add_zero]at q0 q1 q2 q3 q4 q5;have HGY:Hid ((wr.alloc (Obj.cells (bbA x a2 c2) 52)).rangeAt b (o+m*6) (bbL y b2 d2)):=Ae (Aa q0 (Aa q1 (Aa q2 (Aa q3 (Aa q4 (Aa q5 (Ao _ _ _))))))) hal hbl;have HNY:Hid ((xs.map (·.name))[m]?=some y.name):=by show _=_;rw[List.getElem?_map,hy];rfl
     clear hnm hal hy z0 q0 q1 q2 q3 q4 q5;refine wp_region_held_drew (S:=λwy=>wy.rangeAt wr.heap.size 0 (bbL x a2 c2)/\wy.rangeAt b (o+m*6) (bbL y b2 d2)) (by kernel_rfl) ⟨Bt HG,Bt HGY⟩ (λhS=>?_);have HB4:Hid (Below w.heap.size w (wr.alloc (Obj.cells (bbA x a2 c2) 52)).drew):=HBD;have HS4:Hid (wr.heap.size<(wr.alloc (Obj.cells (bbA x a2 c2) 52)).drew.heap.size):=by show _<_;simp
     clear HG HBD;refine tz 0 14 (.func (.func 100) #[] #[]) ?_;refine tm 1 15 wr.heap.size 0 (bbL x a2 c2) rfl (λ_ h=>h.1) underlying52 Dl hS ?_;refine rd1 2 ⟨some 16,_,_,_,_,none⟩ rfl (λK hK=>?_);go_simp;refine(Fy x a2 c2 _).mono ?_;rintro e w5⟨rfl,hb⟩;have HB5:=qTH HB4 hb;have HS5:Hid (wr.heap.size<w5.heap.size):=lL HS4 hb.size;refine hK.out _ _ ⟨Ae hS.1 hb HS4,Ae hS.2 hb (Nat.lt_trans hbl HS4)⟩ (λhS=>?_);clear hb HB4 HS4;clear hK K;refine rd1 3 ⟨some 17,_,_,_,_,none⟩ rfl (λK hK=>?_);go_simp;refine(Ch _ _ HZ).mono ?_;rintro e w' ⟨rfl,rfl⟩;refine hK.out _ _ hS (λhS=>?_);clear hK K;rw[HNM.out];refine tz 4 18 (.bool false) ?_;refine tz 5 19 (.bool false) ?_;refine tz 6 20 (.int .i64 ((m+1:Nat):Int)) ?_;refine tz 7 21 (.bool true) ?_;refine tz 8 22 (.bool true) ?_;refine tz 9 23 (.func (.func 100) #[] #[]) ?_;refine tz 10 24 (.slice (some ⟨b,o,none⟩) xs.length cap) ?_;refine tz 11 25 (.int .i64 ((m+1:Nat):Int)) ?_;refine ty 12 ⟨some 26,_,_,_,_,some (8,true)⟩ (.int .i64 (m:Int)) ?_ ?_
     .intro wy hy
      clear hy;go_simp;rw[IntKind.wrap_i64];omega
     refine ty 13 ⟨some 27,_,_,_,_,some (8,true)⟩ (.pointer (some ⟨b,o+m*6,none⟩)) ?_ ?_
     .intro wy hy
      clear hy;go_simp;intro hh;omega
     refine tm 14 28 b (o+m*6) (bbL y b2 d2) rfl (λ_ h=>h.2) underlying52 Dl hS ?_;refine tz 16 30 (.func (.func 100) #[] #[]) ?_;refine tm 17 31 wr.heap.size 0 (bbL x a2 c2) rfl (λ_ h=>h.1) underlying52 Dl hS ?_;refine rd1 15 ⟨some 29,_,_,_,_,some (8,true)⟩ rfl (λK hK=>?_);go_simp;refine(Fy y b2 d2 _).mono ?_;rintro e w6⟨rfl,hb⟩;have HB6:=qTH HB5 hb;have HS6:Hid (wr.heap.size<w6.heap.size):=lL HS5 hb.size;refine hK.out _ _ ⟨Ae hS.1 hb HS5,Ae hS.2 hb (Nat.lt_trans hbl HS5)⟩ (λhS=>?_);clear hb HB5 HS5;clear hK K;refine rd1 18 ⟨some 32,_,_,_,_,some (8,true)⟩ rfl (λK hK=>?_);go_simp;refine(Fy x a2 c2 _).mono ?_;rintro e w7⟨rfl,hb⟩;have HB7:=qTH HB6 hb;have HS7:Hid (wr.heap.size<w7.heap.size):=lL HS6 hb.size;refine hK.out _ _ ⟨Ae hS.1 hb HS6,Ae hS.2 hb (Nat.lt_trans hbl HS6)⟩ (λhS=>?_);clear hb HB6 HS6;clear hK K;cases hbl2:Op.bytesLess y.name.toList x.name.toList
     .have HC:Hid (Cm (xs.map (·.name)) xs.length=false):=Es (k:=m+1) (by simp only[Gl,HN.out,HNY.out,hbl2,Bool.and_false]) _ hlt
      refine tz 19 33 (.bool true) ?_;refine tz 20 34 (.bool true) ?_;refine tz 21 35 (.bool true) ?_;refine td ?_
      go_wp2
      go_ret;exact⟨Ab HC.out.symm,HB7⟩
     .have HC:Hid (Cm (xs.map (·.name)) (m+1+1)=true):=by show _=_;rw[Cm,ho.out];simp only[Gl,HN.out,HNY.out,hbl2,HNM.out,Bool.and_self]
      refine tz 19 33 (.bool false) ?_;refine tz 20 34 (.bool false) ?_;refine tz 21 35 (.bool false) ?_;refine td ?_
      go_wp2
      go_roundw
      case rel=>exact⟨m+1+1,by omega,by go_num,HC,HB7⟩
      case measure=>simp[intOf];omega
  .have hke:k=xs.length:=by omega
   subst hke
   go_wp2
   go_ret;exact⟨Ab ho.out.symm,hbel⟩
theorem iB(xs:List Svc)(a:OA)(cap lo:Nat)(w:World)(hin:SliceC SvcC 2 lo w a xs)(hsm:xs.length<=1048576) :
  Calls prog 126 #[.slice a xs.length cap,.func (.func 102) #[] #[]] w (Rt (.bool (Cm (xs.map (·.name)) xs.length)) w):=by
 have HI:=iH hin;clear hin;go_enter func126,ntmps126
 go_wp2
 go_loopw [9] (λi wr=>∃k:Nat,k<=xs.length/\i=.int .i64 k/\Hid (Cm (xs.map (·.name)) k=true)/\Below w.heap.size w wr) (λi _=>xs.length-(intOf i).toNat)
 case atStart=>exact⟨0,zL,rfl,rfl,by go_grown⟩
 case round =>
  obtain⟨k,hk,rfl,ho,hbel⟩:=hrel;by_cases hlt:k<xs.length
  .obtain⟨x,hx⟩:=gXe hlt
   have HIR:=qSl SvcC.holds HI hbel;obtain⟨b,o,rfl,_,hbl,hc⟩:=HIR.out.at hx;obtain⟨q0,q1,z0⟩:=hc;simp only[Nat.add_zero]at q0 q1;have HRA:Hid (wr.rangeAt b (o+k*2) [.string x.name,.int .i64 x.spare]):=Aa q0 (Aa q1 (Ao _ _ _));have HZ:=iH z0;have HN:Hid ((xs.map (·.name))[k]?=some x.name):=by show _=_;rw[List.getElem?_map,hx];rfl
   have HB:=iH hbel;clear z0 hx hbel q0 q1;go_upto_region 4 with(first|(refine qLr lH HRA ?_));have HG:=qRa wr #[.string x.name,.int .i64 x.spare] 88 [.string x.name,.int .i64 x.spare];have hal:=(Below.refl _ wr).alloc nL (Obj.cells #[.string x.name,.int .i64 x.spare] 88);have HBD:Below w.heap.size w (wr.alloc (Obj.cells #[.string x.name,.int .i64 x.spare] 88)).drew:=HB.out.trans (show Below w.heap.size wr _ from(show Below wr.heap.size wr (wr.alloc (Obj.cells #[.string x.name,.int .i64 x.spare] 88)).drew by go_grown).mono HB.out.size);cases hnm:P.nameOk x.name
   .have HNM:=iH hnm
    have HC:Hid (Cm (xs.map (·.name)) xs.length=false):=Es (Ql HN hnm) _ hlt;clear hnm hal ho;refine wp_region_held_drew (S:=λwy=>wy.rangeAt wr.heap.size 0 [.string x.name,.int .i64 x.spare]/\wy.rangeAt b 0 []) (by kernel_rfl) ⟨Bt HG,Ao _ _ _⟩ (λhS=>?_);have HB4:Hid (Below w.heap.size w (wr.alloc (Obj.cells #[.string x.name,.int .i64 x.spare] 88)).drew):=HBD;have HS4:Hid (wr.heap.size<(wr.alloc (Obj.cells #[.string x.name,.int .i64 x.spare] 88)).drew.heap.size):=by show _<_;simp
    clear HG HBD;refine tz 0 14 (.func (.func 102) #[] #[]) ?_;refine tm 1 15 wr.heap.size 0 [.string x.name,.int .i64 x.spare] rfl (λ_ h=>h.1) underlying88 Ld hS ?_;refine rd1 2 ⟨some 16,_,_,_,_,none⟩ rfl (λK hK=>?_);go_simp;refine(Ga x _).mono ?_;rintro e w5⟨rfl,hb⟩;have HB5:=qTH HB4 hb;have HS5:Hid (wr.heap.size<w5.heap.size):=lL HS4 hb.size;refine hK.out _ _ ⟨Ae hS.1 hb HS4,Ae hS.2 hb (Nat.lt_trans hbl HS4)⟩ (λhS=>?_);clear hb HB4 HS4;clear hK K;refine rd1 3 ⟨some 17,_,_,_,_,none⟩ rfl (λK hK=>?_);go_simp;refine(Ch _ _ HZ).mono ?_;rintro e w' ⟨rfl,rfl⟩;refine hK.out _ _ hS (λhS=>?_);clear hK K;rw[HNM.out];refine tz 4 18 (.bool true) ?_;refine tz 5 19 (.bool true) ?_;refine ts 6 20 ?_;refine ts 7 21 ?_;refine ts 8 22 ?_;refine ts 9 23 ?_;refine ts 10 24 ?_;refine ts 11 25 ?_;refine ts 12 26 ?_;refine ts 13 27 ?_;refine ts 14 28 ?_;refine ts 15 29 ?_;refine ts 16 30 ?_;refine ts 17 31 ?_;refine ts 18 32 ?_;refine ts 19 33 ?_;refine ts 20 34 ?_;refine tz 21 35 (.bool true) ?_;refine td ?_
    go_wp2
    go_ret;exact⟨Ab HC.out.symm,HB5⟩
   .have HNM:=iH hnm
    cases k with
    |zero =>
     have HC:Hid (Cm (xs.map (·.name)) (0+1)=true):=by show _=_;simp only[Cm,Gl,HN.out,hnm,Bool.and_self]
     clear hnm hal ho;refine wp_region_held_drew (S:=λwy=>wy.rangeAt wr.heap.size 0 [.string x.name,.int .i64 x.spare]/\wy.rangeAt b 0 []) (by kernel_rfl) ⟨Bt HG,Ao _ _ _⟩ (λhS=>?_);have HB4:Hid (Below w.heap.size w (wr.alloc (Obj.cells #[.string x.name,.int .i64 x.spare] 88)).drew):=HBD;have HS4:Hid (wr.heap.size<(wr.alloc (Obj.cells #[.string x.name,.int .i64 x.spare] 88)).drew.heap.size):=by show _<_;simp
     clear HG HBD;refine tz 0 14 (.func (.func 102) #[] #[]) ?_;refine tm 1 15 wr.heap.size 0 [.string x.name,.int .i64 x.spare] rfl (λ_ h=>h.1) underlying88 Ld hS ?_;refine rd1 2 ⟨some 16,_,_,_,_,none⟩ rfl (λK hK=>?_);go_simp;refine(Ga x _).mono ?_;rintro e w5⟨rfl,hb⟩;have HB5:=qTH HB4 hb;have HS5:Hid (wr.heap.size<w5.heap.size):=lL HS4 hb.size;refine hK.out _ _ ⟨Ae hS.1 hb HS4,Ae hS.2 hb (Nat.lt_trans hbl HS4)⟩ (λhS=>?_);clear hb HB4 HS4;clear hK K;refine rd1 3 ⟨some 17,_,_,_,_,none⟩ rfl (λK hK=>?_);go_simp;refine(Ch _ _ HZ).mono ?_;rintro e w' ⟨rfl,rfl⟩;refine hK.out _ _ hS (λhS=>?_);clear hK K;rw[HNM.out];refine tz 4 18 (.bool false) ?_;refine tz 5 19 (.bool false) ?_;refine tz 6 20 (.int .i64 ((0:Nat):Int)) ?_;refine tz 7 21 (.bool false) ?_;refine tz 8 22 (.bool false) ?_;refine ts 9 23 ?_;refine ts 10 24 ?_;refine ts 11 25 ?_;refine ts 12 26 ?_;refine ts 13 27 ?_;refine ts 14 28 ?_;refine ts 15 29 ?_;refine ts 16 30 ?_;refine ts 17 31 ?_;refine ts 18 32 ?_;refine ts 19 33 ?_;refine tz 20 34 (.bool false) ?_;refine tz 21 35 (.bool false) ?_;refine td ?_
     go_wp2
     go_roundw
     case rel=>exact⟨0+1,by omega,by go_num,HC,HB5⟩
     case measure=>simp[intOf];omega
    | succ m =>
     obtain⟨y,hy⟩:∃y,xs[m]?=some y:=⟨xs[m],gE (by omega)⟩;obtain⟨b',o',e',_,_,hc⟩:=HIR.out.at hy;cases e'
     obtain⟨q0,q1,z0⟩:=hc;simp only[Nat.add_zero]at q0 q1;have HGY:Hid ((wr.alloc (Obj.cells #[.string x.name,.int .i64 x.spare] 88)).rangeAt b (o+m*2) [.string y.name,.int .i64 y.spare]):=Ae (Aa q0 (Aa q1 (Ao _ _ _))) hal hbl;have HNY:Hid ((xs.map (·.name))[m]?=some y.name):=by show _=_;rw[List.getElem?_map,hy];rfl
     clear hnm hal hy z0 q0 q1;refine wp_region_held_drew (S:=λwy=>wy.rangeAt wr.heap.size 0 [.string x.name,.int .i64 x.spare]/\wy.rangeAt b (o+m*2) [.string y.name,.int .i64 y.spare]) (by kernel_rfl) ⟨Bt HG,Bt HGY⟩ (λhS=>?_);have HB4:Hid (Below w.heap.size w (wr.alloc (Obj.cells #[.string x.name,.int .i64 x.spare] 88)).drew):=HBD;have HS4:Hid (wr.heap.size<(wr.alloc (Obj.cells #[.string x.name,.int .i64 x.spare] 88)).drew.heap.size):=by show _<_;simp
     clear HG HBD;refine tz 0 14 (.func (.func 102) #[] #[]) ?_;refine tm 1 15 wr.heap.size 0 [.string x.name,.int .i64 x.spare] rfl (λ_ h=>h.1) underlying88 Ld hS ?_;refine rd1 2 ⟨some 16,_,_,_,_,none⟩ rfl (λK hK=>?_);go_simp;refine(Ga x _).mono ?_;rintro e w5⟨rfl,hb⟩;have HB5:=qTH HB4 hb;have HS5:Hid (wr.heap.size<w5.heap.size):=lL HS4 hb.size;refine hK.out _ _ ⟨Ae hS.1 hb HS4,Ae hS.2 hb (Nat.lt_trans hbl HS4)⟩ (λhS=>?_);clear hb HB4 HS4;clear hK K;refine rd1 3 ⟨some 17,_,_,_,_,none⟩ rfl (λK hK=>?_);go_simp;refine(Ch _ _ HZ).mono ?_;rintro e w' ⟨rfl,rfl⟩;refine hK.out _ _ hS (λhS=>?_);clear hK K;rw[HNM.out];refine tz 4 18 (.bool false) ?_;refine tz 5 19 (.bool false) ?_;refine tz 6 20 (.int .i64 ((m+1:Nat):Int)) ?_;refine tz 7 21 (.bool true) ?_;refine tz 8 22 (.bool true) ?_;refine tz 9 23 (.func (.func 102) #[] #[]) ?_;refine tz 10 24 (.slice (some ⟨b,o,none⟩) xs.length cap) ?_;refine tz 11 25 (.int .i64 ((m+1:Nat):Int)) ?_;refine ty 12 ⟨some 26,_,_,_,_,some (8,true)⟩ (.int .i64 (m:Int)) ?_ ?_
     .intro wy hy
      clear hy;go_simp;rw[IntKind.wrap_i64];omega
     refine ty 13 ⟨some 27,_,_,_,_,some (8,true)⟩ (.pointer (some ⟨b,o+m*2,none⟩)) ?_ ?_
     .intro wy hy
      clear hy;go_simp;intro hh;omega
     refine tm 14 28 b (o+m*2) [.string y.name,.int .i64 y.spare] rfl (λ_ h=>h.2) underlying88 Ld hS ?_;refine tz 16 30 (.func (.func 102) #[] #[]) ?_;refine tm 17 31 wr.heap.size 0 [.string x.name,.int .i64 x.spare] rfl (λ_ h=>h.1) underlying88 Ld hS ?_;refine rd1 15 ⟨some 29,_,_,_,_,some (8,true)⟩ rfl (λK hK=>?_);go_simp;refine(Ga y _).mono ?_;rintro e w6⟨rfl,hb⟩;have HB6:=qTH HB5 hb;have HS6:Hid (wr.heap.size<w6.heap.size):=lL HS5 hb.size;refine hK.out _ _ ⟨Ae hS.1 hb HS5,Ae hS.2 hb (Nat.lt_trans hbl HS5)⟩ (λhS=>?_);clear hb HB5 HS5;clear hK K;refine rd1 18 ⟨some 32,_,_,_,_,some (8,true)⟩ rfl (λK hK=>?_);go_simp;refine(Ga x _).mono ?_;rintro e w7⟨rfl,hb⟩;have HB7:=qTH HB6 hb;have HS7:Hid (wr.heap.size<w7.heap.size):=lL HS6 hb.size;refine hK.out _ _ ⟨Ae hS.1 hb HS6,Ae hS.2 hb (Nat.lt_trans hbl HS6)⟩ (λhS=>?_);clear hb HB6 HS6;clear hK K;cases hbl2:Op.bytesLess y.name.toList x.name.toList
     .have HC:Hid (Cm (xs.map (·.name)) xs.length=false):=Es (k:=m+1) (by simp only[Gl,HN.out,HNY.out,hbl2,Bool.and_false]) _ hlt
      refine tz 19 33 (.bool true) ?_;refine tz 20 34 (.bool true) ?_;refine tz 21 35 (.bool true) ?_;refine td ?_
      go_wp2
      go_ret;exact⟨Ab HC.out.symm,HB7⟩
     .have HC:Hid (Cm (xs.map (·.name)) (m+1+1)=true):=by show _=_;rw[Cm,ho.out];simp only[Gl,HN.out,HNY.out,hbl2,HNM.out,Bool.and_self]
      refine tz 19 33 (.bool false) ?_;refine tz 20 34 (.bool false) ?_;refine tz 21 35 (.bool false) ?_;refine td ?_
      go_wp2
      go_roundw
      case rel=>exact⟨m+1+1,by omega,by go_num,HC,HB7⟩
      case measure=>simp[intOf];omega
  .have hke:k=xs.length:=by omega
   subst hke
   go_wp2
   go_ret;exact⟨Ab ho.out.symm,hbel⟩
theorem gX(xs:List Cpy)(a:OA)(cap lo:Nat)(w:World)(hin:SliceC CpyC 12 lo w a xs)(hsm:xs.length<=1048576) :
  Calls prog 127 #[.slice a xs.length cap,.func (.func 104) #[] #[]] w (Rt (.bool (Cm (xs.map (·.name)) xs.length)) w):=by
 have HI:=iH hin;clear hin;go_enter func127,ntmps127
 go_wp2
 go_loopw [9] (λi wr=>∃k:Nat,k<=xs.length/\i=.int .i64 k/\Hid (Cm (xs.map (·.name)) k=true)/\Below w.heap.size w wr) (λi _=>xs.length-(intOf i).toNat)
 case atStart=>exact⟨0,zL,rfl,rfl,by go_grown⟩
 case round =>
  obtain⟨k,hk,rfl,ho,hbel⟩:=hrel;by_cases hlt:k<xs.length
  .obtain⟨x,hx⟩:=gXe hlt
   have HIR:=qSl CpyC.holds HI hbel;obtain⟨b,o,rfl,_,hbl,hc⟩:=HIR.out.at hx;obtain⟨a2,c2,q0,q1,q2,q3,q4,q5,q6,q7,q8,q9,q10,q11,z0,_,_,_,_,_,_⟩:=hc;simp only[Nat.add_zero]at q0 q1 q2 q3 q4 q5 q6 q7 q8 q9 q10 q11;have HRA:Hid (wr.rangeAt b (o+k*12) (ccL x a2 c2)):=Aa q0 (Aa q1 (Aa q2 (Aa q3 (Aa q4 (Aa q5 (Aa q6 (Aa q7 (Aa q8 (Aa q9 (Aa q10 (Aa q11 (Ao _ _ _))))))))))));have HZ:=iH z0;have HN:Hid ((xs.map (·.name))[k]?=some x.name):=by show _=_;rw[List.getElem?_map,hx];rfl
   have HB:=iH hbel;clear z0 hx hbel q0 q1 q2 q3 q4 q5 q6 q7 q8 q9 q10 q11;go_upto_region 4 with(first|(refine qLr Jg HRA ?_));have HG:=qRa wr (ccA x a2 c2) 49 (ccL x a2 c2);have hal:=(Below.refl _ wr).alloc nL (Obj.cells (ccA x a2 c2) 49);have HBD:Below w.heap.size w (wr.alloc (Obj.cells (ccA x a2 c2) 49)).drew:=HB.out.trans (show Below w.heap.size wr _ from(show Below wr.heap.size wr (wr.alloc (Obj.cells (ccA x a2 c2) 49)).drew by go_grown).mono HB.out.size);cases hnm:P.nameOk x.name
   .have HNM:=iH hnm
    have HC:Hid (Cm (xs.map (·.name)) xs.length=false):=Es (Ql HN hnm) _ hlt;clear hnm hal ho;refine wp_region_held_drew (S:=λwy=>wy.rangeAt wr.heap.size 0 (ccL x a2 c2)/\wy.rangeAt b 0 []) (by kernel_rfl) ⟨Bt HG,Ao _ _ _⟩ (λhS=>?_);have HB4:Hid (Below w.heap.size w (wr.alloc (Obj.cells (ccA x a2 c2) 49)).drew):=HBD;have HS4:Hid (wr.heap.size<(wr.alloc (Obj.cells (ccA x a2 c2) 49)).drew.heap.size):=by show _<_;simp
    clear HG HBD;refine tz 0 14 (.func (.func 104) #[] #[]) ?_;refine tm 1 15 wr.heap.size 0 (ccL x a2 c2) rfl (λ_ h=>h.1) underlying49 Dk hS ?_;refine rd1 2 ⟨some 16,_,_,_,_,none⟩ rfl (λK hK=>?_);go_simp;refine(Fx x a2 c2 _).mono ?_;rintro e w5⟨rfl,hb⟩;have HB5:=qTH HB4 hb;have HS5:Hid (wr.heap.size<w5.heap.size):=lL HS4 hb.size;refine hK.out _ _ ⟨Ae hS.1 hb HS4,Ae hS.2 hb (Nat.lt_trans hbl HS4)⟩ (λhS=>?_);clear hb HB4 HS4;clear hK K;refine rd1 3 ⟨some 17,_,_,_,_,none⟩ rfl (λK hK=>?_);go_simp;refine(Ch _ _ HZ).mono ?_;rintro e w' ⟨rfl,rfl⟩;refine hK.out _ _ hS (λhS=>?_);clear hK K;rw[HNM.out];refine tz 4 18 (.bool true) ?_;refine tz 5 19 (.bool true) ?_;refine ts 6 20 ?_;refine ts 7 21 ?_;refine ts 8 22 ?_;refine ts 9 23 ?_;refine ts 10 24 ?_;refine ts 11 25 ?_;refine ts 12 26 ?_;refine ts 13 27 ?_;refine ts 14 28 ?_;refine ts 15 29 ?_;refine ts 16 30 ?_;refine ts 17 31 ?_;refine ts 18 32 ?_;refine ts 19 33 ?_;refine ts 20 34 ?_;refine tz 21 35 (.bool true) ?_;refine td ?_
    go_wp2
    go_ret;exact⟨Ab HC.out.symm,HB5⟩
   .have HNM:=iH hnm
    cases k with
    |zero =>
     have HC:Hid (Cm (xs.map (·.name)) (0+1)=true):=by show _=_;simp only[Cm,Gl,HN.out,hnm,Bool.and_self]
     clear hnm hal ho;refine wp_region_held_drew (S:=λwy=>wy.rangeAt wr.heap.size 0 (ccL x a2 c2)/\wy.rangeAt b 0 []) (by kernel_rfl) ⟨Bt HG,Ao _ _ _⟩ (λhS=>?_);have HB4:Hid (Below w.heap.size w (wr.alloc (Obj.cells (ccA x a2 c2) 49)).drew):=HBD;have HS4:Hid (wr.heap.size<(wr.alloc (Obj.cells (ccA x a2 c2) 49)).drew.heap.size):=by show _<_;simp
     clear HG HBD;refine tz 0 14 (.func (.func 104) #[] #[]) ?_;refine tm 1 15 wr.heap.size 0 (ccL x a2 c2) rfl (λ_ h=>h.1) underlying49 Dk hS ?_;refine rd1 2 ⟨some 16,_,_,_,_,none⟩ rfl (λK hK=>?_);go_simp;refine(Fx x a2 c2 _).mono ?_;rintro e w5⟨rfl,hb⟩;have HB5:=qTH HB4 hb;have HS5:Hid (wr.heap.size<w5.heap.size):=lL HS4 hb.size;refine hK.out _ _ ⟨Ae hS.1 hb HS4,Ae hS.2 hb (Nat.lt_trans hbl HS4)⟩ (λhS=>?_);clear hb HB4 HS4;clear hK K;refine rd1 3 ⟨some 17,_,_,_,_,none⟩ rfl (λK hK=>?_);go_simp;refine(Ch _ _ HZ).mono ?_;rintro e w' ⟨rfl,rfl⟩;refine hK.out _ _ hS (λhS=>?_);clear hK K;rw[HNM.out];refine tz 4 18 (.bool false) ?_;refine tz 5 19 (.bool false) ?_;refine tz 6 20 (.int .i64 ((0:Nat):Int)) ?_;refine tz 7 21 (.bool false) ?_;refine tz 8 22 (.bool false) ?_;refine ts 9 23 ?_;refine ts 10 24 ?_;refine ts 11 25 ?_;refine ts 12 26 ?_;refine ts 13 27 ?_;refine ts 14 28 ?_;refine ts 15 29 ?_;refine ts 16 30 ?_;refine ts 17 31 ?_;refine ts 18 32 ?_;refine ts 19 33 ?_;refine tz 20 34 (.bool false) ?_;refine tz 21 35 (.bool false) ?_;refine td ?_
     go_wp2
     go_roundw
     case rel=>exact⟨0+1,by omega,by go_num,HC,HB5⟩
     case measure=>simp[intOf];omega
    | succ m =>
     obtain⟨y,hy⟩:∃y,xs[m]?=some y:=⟨xs[m],gE (by omega)⟩;obtain⟨b',o',e',_,_,hc⟩:=HIR.out.at hy;cases e'
     obtain⟨b2,d2,q0,q1,q2,q3,q4,q5,q6,q7,q8,q9,q10,q11,z0,_,_,_,_,_,_⟩:=hc;simp only[Nat.add_zero]at q0 q1 q2 q3 q4 q5 q6 q7 q8 q9 q10 q11;have HGY:Hid ((wr.alloc (Obj.cells (ccA x a2 c2) 49)).rangeAt b (o+m*12) (ccL y b2 d2)):=Ae (Aa q0 (Aa q1 (Aa q2 (Aa q3 (Aa q4 (Aa q5 (Aa q6 (Aa q7 (Aa q8 (Aa q9 (Aa q10 (Aa q11 (Ao _ _ _))))))))))))) hal hbl;have HNY:Hid ((xs.map (·.name))[m]?=some y.name):=by show _=_;rw[List.getElem?_map,hy];rfl
     clear hnm hal hy z0 q0 q1 q2 q3 q4 q5 q6 q7 q8 q9 q10 q11;refine wp_region_held_drew (S:=λwy=>wy.rangeAt wr.heap.size 0 (ccL x a2 c2)/\wy.rangeAt b (o+m*12) (ccL y b2 d2)) (by kernel_rfl) ⟨Bt HG,Bt HGY⟩ (λhS=>?_);have HB4:Hid (Below w.heap.size w (wr.alloc (Obj.cells (ccA x a2 c2) 49)).drew):=HBD;have HS4:Hid (wr.heap.size<(wr.alloc (Obj.cells (ccA x a2 c2) 49)).drew.heap.size):=by show _<_;simp
     clear HG HBD;refine tz 0 14 (.func (.func 104) #[] #[]) ?_;refine tm 1 15 wr.heap.size 0 (ccL x a2 c2) rfl (λ_ h=>h.1) underlying49 Dk hS ?_;refine rd1 2 ⟨some 16,_,_,_,_,none⟩ rfl (λK hK=>?_);go_simp;refine(Fx x a2 c2 _).mono ?_;rintro e w5⟨rfl,hb⟩;have HB5:=qTH HB4 hb;have HS5:Hid (wr.heap.size<w5.heap.size):=lL HS4 hb.size;refine hK.out _ _ ⟨Ae hS.1 hb HS4,Ae hS.2 hb (Nat.lt_trans hbl HS4)⟩ (λhS=>?_);clear hb HB4 HS4;clear hK K;refine rd1 3 ⟨some 17,_,_,_,_,none⟩ rfl (λK hK=>?_);go_simp;refine(Ch _ _ HZ).mono ?_;rintro e w' ⟨rfl,rfl⟩;refine hK.out _ _ hS (λhS=>?_);clear hK K;rw[HNM.out];refine tz 4 18 (.bool false) ?_;refine tz 5 19 (.bool false) ?_;refine tz 6 20 (.int .i64 ((m+1:Nat):Int)) ?_;refine tz 7 21 (.bool true) ?_;refine tz 8 22 (.bool true) ?_;refine tz 9 23 (.func (.func 104) #[] #[]) ?_;refine tz 10 24 (.slice (some ⟨b,o,none⟩) xs.length cap) ?_;refine tz 11 25 (.int .i64 ((m+1:Nat):Int)) ?_;refine ty 12 ⟨some 26,_,_,_,_,some (8,true)⟩ (.int .i64 (m:Int)) ?_ ?_
     .intro wy hy
      clear hy;go_simp;rw[IntKind.wrap_i64];omega
     refine ty 13 ⟨some 27,_,_,_,_,some (8,true)⟩ (.pointer (some ⟨b,o+m*12,none⟩)) ?_ ?_
     .intro wy hy
      clear hy;go_simp;intro hh;omega
     refine tm 14 28 b (o+m*12) (ccL y b2 d2) rfl (λ_ h=>h.2) underlying49 Dk hS ?_;refine tz 16 30 (.func (.func 104) #[] #[]) ?_;refine tm 17 31 wr.heap.size 0 (ccL x a2 c2) rfl (λ_ h=>h.1) underlying49 Dk hS ?_;refine rd1 15 ⟨some 29,_,_,_,_,some (8,true)⟩ rfl (λK hK=>?_);go_simp;refine(Fx y b2 d2 _).mono ?_;rintro e w6⟨rfl,hb⟩;have HB6:=qTH HB5 hb;have HS6:Hid (wr.heap.size<w6.heap.size):=lL HS5 hb.size;refine hK.out _ _ ⟨Ae hS.1 hb HS5,Ae hS.2 hb (Nat.lt_trans hbl HS5)⟩ (λhS=>?_);clear hb HB5 HS5;clear hK K;refine rd1 18 ⟨some 32,_,_,_,_,some (8,true)⟩ rfl (λK hK=>?_);go_simp;refine(Fx x a2 c2 _).mono ?_;rintro e w7⟨rfl,hb⟩;have HB7:=qTH HB6 hb;have HS7:Hid (wr.heap.size<w7.heap.size):=lL HS6 hb.size;refine hK.out _ _ ⟨Ae hS.1 hb HS6,Ae hS.2 hb (Nat.lt_trans hbl HS6)⟩ (λhS=>?_);clear hb HB6 HS6;clear hK K;cases hbl2:Op.bytesLess y.name.toList x.name.toList
     .have HC:Hid (Cm (xs.map (·.name)) xs.length=false):=Es (k:=m+1) (by simp only[Gl,HN.out,HNY.out,hbl2,Bool.and_false]) _ hlt
      refine tz 19 33 (.bool true) ?_;refine tz 20 34 (.bool true) ?_;refine tz 21 35 (.bool true) ?_;refine td ?_
      go_wp2
      go_ret;exact⟨Ab HC.out.symm,HB7⟩
     .have HC:Hid (Cm (xs.map (·.name)) (m+1+1)=true):=by show _=_;rw[Cm,ho.out];simp only[Gl,HN.out,HNY.out,hbl2,HNM.out,Bool.and_self]
      refine tz 19 33 (.bool false) ?_;refine tz 20 34 (.bool false) ?_;refine tz 21 35 (.bool false) ?_;refine td ?_
      go_wp2
      go_roundw
      case rel=>exact⟨m+1+1,by omega,by go_num,HC,HB7⟩
      case measure=>simp[intOf];omega
  .have hke:k=xs.length:=by omega
   subst hke
   go_wp2
   go_ret;exact⟨Ab ho.out.symm,hbel⟩
end Go.Proofs.YtpidfnfilnkhkaaGreat
