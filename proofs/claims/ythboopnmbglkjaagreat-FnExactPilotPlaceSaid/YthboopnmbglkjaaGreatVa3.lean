import Derived.Test.YthboopnmbglkjaaGreatJ11
set_option maxHeartbeats 4000000
namespace Go.Proofs.YthboopnmbglkjaaGreat
open Tryz
set_option maxRecDepth 100000
open Go.RowKit Tryz
def Gm(ns:List BA):Nat->Bool
 |0=>match ns[0]? with
  |none=>true
  |some s=>P.nameOk s
 |m+1=>match ns[m+1]?,ns[m]? with
  |some s,some t=>P.nameOk s&&Op.bytesLess t.toList s.toList
  |_,_=>true
def Cq(ns:List BA):Nat->Bool
 |0=>true
 |k+1=>Cq ns k&&Gm ns k
theorem Er{ns:List BA}{k:Nat}(h:Gm ns k=false):∀n,k<n->Cq ns n=false
 |0,hn=>absurd hn (Nat.not_lt_zero _)
 |n+1,hn=>by
  by_cases e:k=n
  .subst e;simp only[Cq,h,Bool.and_false]
  simp only[Cq,Er h n (by omega),Bool.false_and]
theorem Ra{ns:List BA}{k:Nat}{s:BA}(h:ns[k]?=some s)(hn:P.nameOk s=false):Gm ns k=false:=by
 cases k with
 |zero=>simp only[Gm,h,hn]
 |succ m =>
  have hl:m+1<ns.length:=(List.getElem?_eq_some_iff.mp h).1;have:ns[m]?=some ns[m]:=gE (by omega);simp only[Gm,h,this,hn,Bool.false_and]
theorem Bk{w:World}{g o:Nat}{l:List Value}(h:w.rangeAt g o l):w.drew.rangeAt g o l:=by
 intro j v hj;have:=h j v hj;simpa using this
theorem kP(xs:List Brt)(a:OA)(cap lo:Nat)(w:World)(hin:sB lo w a xs)(hsm:xs.length<=1048576) :
  Calls prog 125 #[.slice a xs.length cap,.func (.func 89) #[] #[]] w (Rt (.bool (Cq (xs.map (·.name)) xs.length)) w):=by
 have HI:=iH hin;clear hin;go_enter func125,ntmps125
 go_wp2
 go_loopw [9] (λi wr=>∃k:Nat,k<=xs.length/\i=X k/\Hid (Cq (xs.map (·.name)) k=true)/\bW w wr) (λi _=>xs.length-(intOf i).toNat)
 case atStart=>exact⟨0,zL,rfl,rfl,by go_grown⟩
 obtain⟨k,hk,rfl,ho,hbel⟩:=hrel;by_cases hlt:k<xs.length
 .obtain⟨x,hx⟩:=gXe hlt
  have HIR:=qSl BrtC.holds HI hbel;obtain⟨b,o,rfl,_,hbl,hc⟩:=HIR.out.at hx;obtain⟨a2,c2,q0,q1,q2,q3,q4,q5,z0,_,_⟩:=hc;simp only[Nat.add_zero]at q0 q1 q2 q3 q4 q5;have HRA:Hid (wr.rangeAt b (o+k*6) (bbL x a2 c2)):=Aa q0 (Aa q1 (Aa q2 (Aa q3 (Aa q4 (Aa q5 (Am _ _ _))))));have HZ:=iH z0;have HN:Hid ((xs.map (·.name))[k]?=some x.name):=by show _=_;rw[List.getElem?_map,hx];rfl
  have HB:=iH hbel;clear z0 hx hbel q0 q1 q2 q3 q4 q5;go_upto_region 4 with(first|(refine qLr Ki HRA ?_));have HG:=qRa wr (bbA x a2 c2) 92 (bbL x a2 c2);have hal:=(Below.refl _ wr).alloc nL (Obj.cells (bbA x a2 c2) 92);have HBD:bW w (wr.alloc (Obj.cells (bbA x a2 c2) 92)).drew:=HB.out.trans (show Below w.heap.size wr _ from(show bW wr (wr.alloc (Obj.cells (bbA x a2 c2) 92)).drew by go_grown).mono HB.out.size);cases hnm:P.nameOk x.name
  .have HNM:=iH hnm
   have HC:Hid (Cq (xs.map (·.name)) xs.length=false):=Er (Ra HN hnm) _ hlt;clear hnm hal ho;refine wp_region_held_drew (S:=λwy=>wy.rangeAt wr.heap.size 0 (bbL x a2 c2)/\wy.rangeAt b 0 []) (by kernel_rfl) ⟨Bk HG,Am _ _ _⟩ (λhS=>?_);have HB4:Hid (bW w (wr.alloc (Obj.cells (bbA x a2 c2) 92)).drew):=HBD;have HS4:Hid (wr.heap.size<(wr.alloc (Obj.cells (bbA x a2 c2) 92)).drew.heap.size):=by show _<_;simp
   clear HG HBD;refine tz 0 14 (.func (.func 89) #[] #[]) ?_;refine tm 1 15 wr.heap.size 0 (bbL x a2 c2) rfl (λ_ h=>h.1) underlying92 Cg hS ?_;refine rd1 2 ⟨some 16,_,_,_,_,none⟩ rfl (λK hK=>?_);go_simp;refine(Ft x a2 c2 _).mono ?_;rintro e w5⟨rfl,hb⟩;have HB5:=qTH HB4 hb;have HS5:Hid (wr.heap.size<w5.heap.size):=lL HS4 hb.size;refine hK.out _ _ ⟨Ac hS.1 hb HS4,Ac hS.2 hb (Nat.lt_trans hbl HS4)⟩ (λhS=>?_);clear hb HB4 HS4;clear hK K;refine rd1 3 ⟨some 17,_,_,_,_,none⟩ rfl (λK hK=>?_);go_simp;refine(Ci _ _ HZ).mono ?_;rintro e w' ⟨rfl,rfl⟩;refine hK.out _ _ hS (λhS=>?_);clear hK K;rw[HNM.out];refine tz 4 18 (.bool true) ?_;refine tz 5 19 (.bool true) ?_;refine ts 6 20 ?_;refine ts 7 21 ?_;refine ts 8 22 ?_;refine ts 9 23 ?_;refine ts 10 24 ?_;refine ts 11 25 ?_;refine ts 12 26 ?_;refine ts 13 27 ?_;refine ts 14 28 ?_;refine ts 15 29 ?_;refine ts 16 30 ?_;refine ts 17 31 ?_;refine ts 18 32 ?_;refine ts 19 33 ?_;refine ts 20 34 ?_;refine tz 21 35 (.bool true) ?_;refine td ?_
   go_wp2
   go_ret;exact⟨Ab HC.out.symm,HB5⟩
  have HNM:=iH hnm
  cases k with
  |zero =>
   have HC:Hid (Cq (xs.map (·.name)) (0+1)=true):=by show _=_;simp only[Cq,Gm,HN.out,hnm,Bool.and_self]
   clear hnm hal ho;refine wp_region_held_drew (S:=λwy=>wy.rangeAt wr.heap.size 0 (bbL x a2 c2)/\wy.rangeAt b 0 []) (by kernel_rfl) ⟨Bk HG,Am _ _ _⟩ (λhS=>?_);have HB4:Hid (bW w (wr.alloc (Obj.cells (bbA x a2 c2) 92)).drew):=HBD;have HS4:Hid (wr.heap.size<(wr.alloc (Obj.cells (bbA x a2 c2) 92)).drew.heap.size):=by show _<_;simp
   clear HG HBD;refine tz 0 14 (.func (.func 89) #[] #[]) ?_;refine tm 1 15 wr.heap.size 0 (bbL x a2 c2) rfl (λ_ h=>h.1) underlying92 Cg hS ?_;refine rd1 2 ⟨some 16,_,_,_,_,none⟩ rfl (λK hK=>?_);go_simp;refine(Ft x a2 c2 _).mono ?_;rintro e w5⟨rfl,hb⟩;have HB5:=qTH HB4 hb;have HS5:Hid (wr.heap.size<w5.heap.size):=lL HS4 hb.size;refine hK.out _ _ ⟨Ac hS.1 hb HS4,Ac hS.2 hb (Nat.lt_trans hbl HS4)⟩ (λhS=>?_);clear hb HB4 HS4;clear hK K;refine rd1 3 ⟨some 17,_,_,_,_,none⟩ rfl (λK hK=>?_);go_simp;refine(Ci _ _ HZ).mono ?_;rintro e w' ⟨rfl,rfl⟩;refine hK.out _ _ hS (λhS=>?_);clear hK K;rw[HNM.out];refine tz 4 18 (.bool false) ?_;refine tz 5 19 (.bool false) ?_;refine tz 6 20 (X ((0:Nat):Int)) ?_;refine tz 7 21 (.bool false) ?_;refine tz 8 22 (.bool false) ?_;refine ts 9 23 ?_;refine ts 10 24 ?_;refine ts 11 25 ?_;refine ts 12 26 ?_;refine ts 13 27 ?_;refine ts 14 28 ?_;refine ts 15 29 ?_;refine ts 16 30 ?_;refine ts 17 31 ?_;refine ts 18 32 ?_;refine ts 19 33 ?_;refine tz 20 34 (.bool false) ?_;refine tz 21 35 (.bool false) ?_;refine td ?_
   go_wp2
   go_roundw
   case rel=>exact⟨0+1,by omega,by go_num,HC,HB5⟩
   simp[intOf];omega
  | succ m =>
   obtain⟨y,hy⟩:∃y,xs[m]?=some y:=⟨xs[m],gE (by omega)⟩;obtain⟨b',o',e',_,_,hc⟩:=HIR.out.at hy;cases e'
   obtain⟨b2,d2,q0,q1,q2,q3,q4,q5,z0,_,_⟩:=hc;simp only[Nat.add_zero]at q0 q1 q2 q3 q4 q5;have HGY:Hid ((wr.alloc (Obj.cells (bbA x a2 c2) 92)).rangeAt b (o+m*6) (bbL y b2 d2)):=Ac (Aa q0 (Aa q1 (Aa q2 (Aa q3 (Aa q4 (Aa q5 (Am _ _ _))))))) hal hbl;have HNY:Hid ((xs.map (·.name))[m]?=some y.name):=by show _=_;rw[List.getElem?_map,hy];rfl
   clear hnm hal hy z0 q0 q1 q2 q3 q4 q5;refine wp_region_held_drew (S:=λwy=>wy.rangeAt wr.heap.size 0 (bbL x a2 c2)/\wy.rangeAt b (o+m*6) (bbL y b2 d2)) (by kernel_rfl) ⟨Bk HG,Bk HGY⟩ (λhS=>?_);have HB4:Hid (bW w (wr.alloc (Obj.cells (bbA x a2 c2) 92)).drew):=HBD;have HS4:Hid (wr.heap.size<(wr.alloc (Obj.cells (bbA x a2 c2) 92)).drew.heap.size):=by show _<_;simp
   clear HG HBD;refine tz 0 14 (.func (.func 89) #[] #[]) ?_;refine tm 1 15 wr.heap.size 0 (bbL x a2 c2) rfl (λ_ h=>h.1) underlying92 Cg hS ?_;refine rd1 2 ⟨some 16,_,_,_,_,none⟩ rfl (λK hK=>?_);go_simp;refine(Ft x a2 c2 _).mono ?_;rintro e w5⟨rfl,hb⟩;have HB5:=qTH HB4 hb;have HS5:Hid (wr.heap.size<w5.heap.size):=lL HS4 hb.size;refine hK.out _ _ ⟨Ac hS.1 hb HS4,Ac hS.2 hb (Nat.lt_trans hbl HS4)⟩ (λhS=>?_);clear hb HB4 HS4;clear hK K;refine rd1 3 ⟨some 17,_,_,_,_,none⟩ rfl (λK hK=>?_);go_simp;refine(Ci _ _ HZ).mono ?_;rintro e w' ⟨rfl,rfl⟩;refine hK.out _ _ hS (λhS=>?_);clear hK K;rw[HNM.out];refine tz 4 18 (.bool false) ?_;refine tz 5 19 (.bool false) ?_;refine tz 6 20 (X ((m+1:Nat):Int)) ?_;refine tz 7 21 (.bool true) ?_;refine tz 8 22 (.bool true) ?_;refine tz 9 23 (.func (.func 89) #[] #[]) ?_;refine tz 10 24 (sP b o xs.length cap) ?_;refine tz 11 25 (X ((m+1:Nat):Int)) ?_;refine ty 12 ⟨some 26,_,_,_,_,some (8,true)⟩ (X (m:Int)) ?_ ?_
   .intro wy hy
    clear hy;go_simp;rw[IntKind.wrap_i64];omega
   refine ty 13 ⟨some 27,_,_,_,_,some (8,true)⟩ (pP b (o+m*6)) ?_ ?_
   .intro wy hy
    clear hy;go_simp;intro hh;omega
   refine tm 14 28 b (o+m*6) (bbL y b2 d2) rfl (λ_ h=>h.2) underlying92 Cg hS ?_;refine tz 16 30 (.func (.func 89) #[] #[]) ?_;refine tm 17 31 wr.heap.size 0 (bbL x a2 c2) rfl (λ_ h=>h.1) underlying92 Cg hS ?_;refine rd1 15 ⟨some 29,_,_,_,_,some (8,true)⟩ rfl (λK hK=>?_);go_simp;refine(Ft y b2 d2 _).mono ?_;rintro e w6⟨rfl,hb⟩;have HB6:=qTH HB5 hb;have HS6:Hid (wr.heap.size<w6.heap.size):=lL HS5 hb.size;refine hK.out _ _ ⟨Ac hS.1 hb HS5,Ac hS.2 hb (Nat.lt_trans hbl HS5)⟩ (λhS=>?_);clear hb HB5 HS5;clear hK K;refine rd1 18 ⟨some 32,_,_,_,_,some (8,true)⟩ rfl (λK hK=>?_);go_simp;refine(Ft x a2 c2 _).mono ?_;rintro e w7⟨rfl,hb⟩;have HB7:=qTH HB6 hb;have HS7:Hid (wr.heap.size<w7.heap.size):=lL HS6 hb.size;refine hK.out _ _ ⟨Ac hS.1 hb HS6,Ac hS.2 hb (Nat.lt_trans hbl HS6)⟩ (λhS=>?_);clear hb HB6 HS6;clear hK K;cases hbl2:Op.bytesLess y.name.toList x.name.toList
   .have HC:Hid (Cq (xs.map (·.name)) xs.length=false):=Er (k:=m+1) (by simp only[Gm,HN.out,HNY.out,hbl2,Bool.and_false]) _ hlt
    refine tz 19 33 (.bool true) ?_;refine tz 20 34 (.bool true) ?_;refine tz 21 35 (.bool true) ?_;refine td ?_
    go_wp2
    go_ret;exact⟨Ab HC.out.symm,HB7⟩
   have HC:Hid (Cq (xs.map (·.name)) (m+1+1)=true):=by show _=_;rw[Cq,ho.out];simp only[Gm,HN.out,HNY.out,hbl2,HNM.out,Bool.and_self]
   refine tz 19 33 (.bool false) ?_;refine tz 20 34 (.bool false) ?_;refine tz 21 35 (.bool false) ?_;refine td ?_
   go_wp2
   go_roundw
   case rel=>exact⟨m+1+1,by omega,by go_num,HC,HB7⟩
   simp[intOf];omega
 have hke:k=xs.length:=by omega
 subst hke
 go_wp2
 go_ret;exact⟨Ab ho.out.symm,hbel⟩
theorem jD(xs:List Svc)(a:OA)(cap lo:Nat)(w:World)(hin:sV lo w a xs)(hsm:xs.length<=1048576) :
  Calls prog 126 #[.slice a xs.length cap,.func (.func 91) #[] #[]] w (Rt (.bool (Cq (xs.map (·.name)) xs.length)) w):=by
 have HI:=iH hin;clear hin;go_enter func126,ntmps126
 go_wp2
 go_loopw [9] (λi wr=>∃k:Nat,k<=xs.length/\i=X k/\Hid (Cq (xs.map (·.name)) k=true)/\bW w wr) (λi _=>xs.length-(intOf i).toNat)
 case atStart=>exact⟨0,zL,rfl,rfl,by go_grown⟩
 obtain⟨k,hk,rfl,ho,hbel⟩:=hrel;by_cases hlt:k<xs.length
 .obtain⟨x,hx⟩:=gXe hlt
  have HIR:=qSl SvcC.holds HI hbel;obtain⟨b,o,rfl,_,hbl,hc⟩:=HIR.out.at hx;obtain⟨q0,q1,z0⟩:=hc;simp only[Nat.add_zero]at q0 q1;have HRA:Hid (wr.rangeAt b (o+k*2) [Y x.name,X x.spare]):=Aa q0 (Aa q1 (Am _ _ _));have HZ:=iH z0;have HN:Hid ((xs.map (·.name))[k]?=some x.name):=by show _=_;rw[List.getElem?_map,hx];rfl
  have HB:=iH hbel;clear z0 hx hbel q0 q1;go_upto_region 4 with(first|(refine qLr Vf HRA ?_));have HG:=qRa wr #[Y x.name,X x.spare] 88 [Y x.name,X x.spare];have hal:=(Below.refl _ wr).alloc nL (Obj.cells #[Y x.name,X x.spare] 88);have HBD:bW w (wr.alloc (Obj.cells #[Y x.name,X x.spare] 88)).drew:=HB.out.trans (show Below w.heap.size wr _ from(show bW wr (wr.alloc (Obj.cells #[Y x.name,X x.spare] 88)).drew by go_grown).mono HB.out.size);cases hnm:P.nameOk x.name
  .have HNM:=iH hnm
   have HC:Hid (Cq (xs.map (·.name)) xs.length=false):=Er (Ra HN hnm) _ hlt;clear hnm hal ho;refine wp_region_held_drew (S:=λwy=>wy.rangeAt wr.heap.size 0 [Y x.name,X x.spare]/\wy.rangeAt b 0 []) (by kernel_rfl) ⟨Bk HG,Am _ _ _⟩ (λhS=>?_);have HB4:Hid (bW w (wr.alloc (Obj.cells #[Y x.name,X x.spare] 88)).drew):=HBD;have HS4:Hid (wr.heap.size<(wr.alloc (Obj.cells #[Y x.name,X x.spare] 88)).drew.heap.size):=by show _<_;simp
   clear HG HBD;refine tz 0 14 (.func (.func 91) #[] #[]) ?_;refine tm 1 15 wr.heap.size 0 [Y x.name,X x.spare] rfl (λ_ h=>h.1) underlying88 Gc hS ?_;refine rd1 2 ⟨some 16,_,_,_,_,none⟩ rfl (λK hK=>?_);go_simp;refine(Fp x _).mono ?_;rintro e w5⟨rfl,hb⟩;have HB5:=qTH HB4 hb;have HS5:Hid (wr.heap.size<w5.heap.size):=lL HS4 hb.size;refine hK.out _ _ ⟨Ac hS.1 hb HS4,Ac hS.2 hb (Nat.lt_trans hbl HS4)⟩ (λhS=>?_);clear hb HB4 HS4;clear hK K;refine rd1 3 ⟨some 17,_,_,_,_,none⟩ rfl (λK hK=>?_);go_simp;refine(Ci _ _ HZ).mono ?_;rintro e w' ⟨rfl,rfl⟩;refine hK.out _ _ hS (λhS=>?_);clear hK K;rw[HNM.out];refine tz 4 18 (.bool true) ?_;refine tz 5 19 (.bool true) ?_;refine ts 6 20 ?_;refine ts 7 21 ?_;refine ts 8 22 ?_;refine ts 9 23 ?_;refine ts 10 24 ?_;refine ts 11 25 ?_;refine ts 12 26 ?_;refine ts 13 27 ?_;refine ts 14 28 ?_;refine ts 15 29 ?_;refine ts 16 30 ?_;refine ts 17 31 ?_;refine ts 18 32 ?_;refine ts 19 33 ?_;refine ts 20 34 ?_;refine tz 21 35 (.bool true) ?_;refine td ?_
   go_wp2
   go_ret;exact⟨Ab HC.out.symm,HB5⟩
  have HNM:=iH hnm
  cases k with
  |zero =>
   have HC:Hid (Cq (xs.map (·.name)) (0+1)=true):=by show _=_;simp only[Cq,Gm,HN.out,hnm,Bool.and_self]
   clear hnm hal ho;refine wp_region_held_drew (S:=λwy=>wy.rangeAt wr.heap.size 0 [Y x.name,X x.spare]/\wy.rangeAt b 0 []) (by kernel_rfl) ⟨Bk HG,Am _ _ _⟩ (λhS=>?_);have HB4:Hid (bW w (wr.alloc (Obj.cells #[Y x.name,X x.spare] 88)).drew):=HBD;have HS4:Hid (wr.heap.size<(wr.alloc (Obj.cells #[Y x.name,X x.spare] 88)).drew.heap.size):=by show _<_;simp
   clear HG HBD;refine tz 0 14 (.func (.func 91) #[] #[]) ?_;refine tm 1 15 wr.heap.size 0 [Y x.name,X x.spare] rfl (λ_ h=>h.1) underlying88 Gc hS ?_;refine rd1 2 ⟨some 16,_,_,_,_,none⟩ rfl (λK hK=>?_);go_simp;refine(Fp x _).mono ?_;rintro e w5⟨rfl,hb⟩;have HB5:=qTH HB4 hb;have HS5:Hid (wr.heap.size<w5.heap.size):=lL HS4 hb.size;refine hK.out _ _ ⟨Ac hS.1 hb HS4,Ac hS.2 hb (Nat.lt_trans hbl HS4)⟩ (λhS=>?_);clear hb HB4 HS4;clear hK K;refine rd1 3 ⟨some 17,_,_,_,_,none⟩ rfl (λK hK=>?_);go_simp;refine(Ci _ _ HZ).mono ?_;rintro e w' ⟨rfl,rfl⟩;refine hK.out _ _ hS (λhS=>?_);clear hK K;rw[HNM.out];refine tz 4 18 (.bool false) ?_;refine tz 5 19 (.bool false) ?_;refine tz 6 20 (X ((0:Nat):Int)) ?_;refine tz 7 21 (.bool false) ?_;refine tz 8 22 (.bool false) ?_;refine ts 9 23 ?_;refine ts 10 24 ?_;refine ts 11 25 ?_;refine ts 12 26 ?_;refine ts 13 27 ?_;refine ts 14 28 ?_;refine ts 15 29 ?_;refine ts 16 30 ?_;refine ts 17 31 ?_;refine ts 18 32 ?_;refine ts 19 33 ?_;refine tz 20 34 (.bool false) ?_;refine tz 21 35 (.bool false) ?_;refine td ?_
   go_wp2
   go_roundw
   case rel=>exact⟨0+1,by omega,by go_num,HC,HB5⟩
   simp[intOf];omega
  | succ m =>
   obtain⟨y,hy⟩:∃y,xs[m]?=some y:=⟨xs[m],gE (by omega)⟩;obtain⟨b',o',e',_,_,hc⟩:=HIR.out.at hy;cases e'
   obtain⟨q0,q1,z0⟩:=hc;simp only[Nat.add_zero]at q0 q1;have HGY:Hid ((wr.alloc (Obj.cells #[Y x.name,X x.spare] 88)).rangeAt b (o+m*2) [Y y.name,X y.spare]):=Ac (Aa q0 (Aa q1 (Am _ _ _))) hal hbl;have HNY:Hid ((xs.map (·.name))[m]?=some y.name):=by show _=_;rw[List.getElem?_map,hy];rfl
   clear hnm hal hy z0 q0 q1;refine wp_region_held_drew (S:=λwy=>wy.rangeAt wr.heap.size 0 [Y x.name,X x.spare]/\wy.rangeAt b (o+m*2) [Y y.name,X y.spare]) (by kernel_rfl) ⟨Bk HG,Bk HGY⟩ (λhS=>?_);have HB4:Hid (bW w (wr.alloc (Obj.cells #[Y x.name,X x.spare] 88)).drew):=HBD;have HS4:Hid (wr.heap.size<(wr.alloc (Obj.cells #[Y x.name,X x.spare] 88)).drew.heap.size):=by show _<_;simp
   clear HG HBD;refine tz 0 14 (.func (.func 91) #[] #[]) ?_;refine tm 1 15 wr.heap.size 0 [Y x.name,X x.spare] rfl (λ_ h=>h.1) underlying88 Gc hS ?_;refine rd1 2 ⟨some 16,_,_,_,_,none⟩ rfl (λK hK=>?_);go_simp;refine(Fp x _).mono ?_;rintro e w5⟨rfl,hb⟩;have HB5:=qTH HB4 hb;have HS5:Hid (wr.heap.size<w5.heap.size):=lL HS4 hb.size;refine hK.out _ _ ⟨Ac hS.1 hb HS4,Ac hS.2 hb (Nat.lt_trans hbl HS4)⟩ (λhS=>?_);clear hb HB4 HS4;clear hK K;refine rd1 3 ⟨some 17,_,_,_,_,none⟩ rfl (λK hK=>?_);go_simp;refine(Ci _ _ HZ).mono ?_;rintro e w' ⟨rfl,rfl⟩;refine hK.out _ _ hS (λhS=>?_);clear hK K;rw[HNM.out];refine tz 4 18 (.bool false) ?_;refine tz 5 19 (.bool false) ?_;refine tz 6 20 (X ((m+1:Nat):Int)) ?_;refine tz 7 21 (.bool true) ?_;refine tz 8 22 (.bool true) ?_;refine tz 9 23 (.func (.func 91) #[] #[]) ?_;refine tz 10 24 (sP b o xs.length cap) ?_;refine tz 11 25 (X ((m+1:Nat):Int)) ?_;refine ty 12 ⟨some 26,_,_,_,_,some (8,true)⟩ (X (m:Int)) ?_ ?_
   .intro wy hy
    clear hy;go_simp;rw[IntKind.wrap_i64];omega
   refine ty 13 ⟨some 27,_,_,_,_,some (8,true)⟩ (pP b (o+m*2)) ?_ ?_
   .intro wy hy
    clear hy;go_simp;intro hh;omega
   refine tm 14 28 b (o+m*2) [Y y.name,X y.spare] rfl (λ_ h=>h.2) underlying88 Gc hS ?_;refine tz 16 30 (.func (.func 91) #[] #[]) ?_;refine tm 17 31 wr.heap.size 0 [Y x.name,X x.spare] rfl (λ_ h=>h.1) underlying88 Gc hS ?_;refine rd1 15 ⟨some 29,_,_,_,_,some (8,true)⟩ rfl (λK hK=>?_);go_simp;refine(Fp y _).mono ?_;rintro e w6⟨rfl,hb⟩;have HB6:=qTH HB5 hb;have HS6:Hid (wr.heap.size<w6.heap.size):=lL HS5 hb.size;refine hK.out _ _ ⟨Ac hS.1 hb HS5,Ac hS.2 hb (Nat.lt_trans hbl HS5)⟩ (λhS=>?_);clear hb HB5 HS5;clear hK K;refine rd1 18 ⟨some 32,_,_,_,_,some (8,true)⟩ rfl (λK hK=>?_);go_simp;refine(Fp x _).mono ?_;rintro e w7⟨rfl,hb⟩;have HB7:=qTH HB6 hb;have HS7:Hid (wr.heap.size<w7.heap.size):=lL HS6 hb.size;refine hK.out _ _ ⟨Ac hS.1 hb HS6,Ac hS.2 hb (Nat.lt_trans hbl HS6)⟩ (λhS=>?_);clear hb HB6 HS6;clear hK K;cases hbl2:Op.bytesLess y.name.toList x.name.toList
   .have HC:Hid (Cq (xs.map (·.name)) xs.length=false):=Er (k:=m+1) (by simp only[Gm,HN.out,HNY.out,hbl2,Bool.and_false]) _ hlt
    refine tz 19 33 (.bool true) ?_;refine tz 20 34 (.bool true) ?_;refine tz 21 35 (.bool true) ?_;refine td ?_
    go_wp2
    go_ret;exact⟨Ab HC.out.symm,HB7⟩
   have HC:Hid (Cq (xs.map (·.name)) (m+1+1)=true):=by show _=_;rw[Cq,ho.out];simp only[Gm,HN.out,HNY.out,hbl2,HNM.out,Bool.and_self]
   refine tz 19 33 (.bool false) ?_;refine tz 20 34 (.bool false) ?_;refine tz 21 35 (.bool false) ?_;refine td ?_
   go_wp2
   go_roundw
   case rel=>exact⟨m+1+1,by omega,by go_num,HC,HB7⟩
   simp[intOf];omega
 have hke:k=xs.length:=by omega
 subst hke
 go_wp2
 go_ret;exact⟨Ab ho.out.symm,hbel⟩
theorem iW(xs:List Cpy)(a:OA)(cap lo:Nat)(w:World)(hin:sC lo w a xs)(hsm:xs.length<=1048576) :
  Calls prog 127 #[.slice a xs.length cap,.func (.func 93) #[] #[]] w (Rt (.bool (Cq (xs.map (·.name)) xs.length)) w):=by
 have HI:=iH hin;clear hin;go_enter func127,ntmps127
 go_wp2
 go_loopw [9] (λi wr=>∃k:Nat,k<=xs.length/\i=X k/\Hid (Cq (xs.map (·.name)) k=true)/\bW w wr) (λi _=>xs.length-(intOf i).toNat)
 case atStart=>exact⟨0,zL,rfl,rfl,by go_grown⟩
 obtain⟨k,hk,rfl,ho,hbel⟩:=hrel;by_cases hlt:k<xs.length
 .obtain⟨x,hx⟩:=gXe hlt
  have HIR:=qSl CpyC.holds HI hbel;obtain⟨b,o,rfl,_,hbl,hc⟩:=HIR.out.at hx;obtain⟨a2,c2,q0,q1,q2,q3,q4,q5,q6,q7,q8,q9,q10,q11,z0,_,_,_,_,_,_⟩:=hc;simp only[Nat.add_zero]at q0 q1 q2 q3 q4 q5 q6 q7 q8 q9 q10 q11;have HRA:Hid (wr.rangeAt b (o+k*12) (ccL x a2 c2)):=Aa q0 (Aa q1 (Aa q2 (Aa q3 (Aa q4 (Aa q5 (Aa q6 (Aa q7 (Aa q8 (Aa q9 (Aa q10 (Aa q11 (Am _ _ _))))))))))));have HZ:=iH z0;have HN:Hid ((xs.map (·.name))[k]?=some x.name):=by show _=_;rw[List.getElem?_map,hx];rfl
  have HB:=iH hbel;clear z0 hx hbel q0 q1 q2 q3 q4 q5 q6 q7 q8 q9 q10 q11;go_upto_region 4 with(first|(refine qLr Hb HRA ?_));have HG:=qRa wr (ccA x a2 c2) 54 (ccL x a2 c2);have hal:=(Below.refl _ wr).alloc nL (Obj.cells (ccA x a2 c2) 54);have HBD:bW w (wr.alloc (Obj.cells (ccA x a2 c2) 54)).drew:=HB.out.trans (show Below w.heap.size wr _ from(show bW wr (wr.alloc (Obj.cells (ccA x a2 c2) 54)).drew by go_grown).mono HB.out.size);cases hnm:P.nameOk x.name
  .have HNM:=iH hnm
   have HC:Hid (Cq (xs.map (·.name)) xs.length=false):=Er (Ra HN hnm) _ hlt;clear hnm hal ho;refine wp_region_held_drew (S:=λwy=>wy.rangeAt wr.heap.size 0 (ccL x a2 c2)/\wy.rangeAt b 0 []) (by kernel_rfl) ⟨Bk HG,Am _ _ _⟩ (λhS=>?_);have HB4:Hid (bW w (wr.alloc (Obj.cells (ccA x a2 c2) 54)).drew):=HBD;have HS4:Hid (wr.heap.size<(wr.alloc (Obj.cells (ccA x a2 c2) 54)).drew.heap.size):=by show _<_;simp
   clear HG HBD;refine tz 0 14 (.func (.func 93) #[] #[]) ?_;refine tm 1 15 wr.heap.size 0 (ccL x a2 c2) rfl (λ_ h=>h.1) underlying54 Bz hS ?_;refine rd1 2 ⟨some 16,_,_,_,_,none⟩ rfl (λK hK=>?_);go_simp;refine(Fu x a2 c2 _).mono ?_;rintro e w5⟨rfl,hb⟩;have HB5:=qTH HB4 hb;have HS5:Hid (wr.heap.size<w5.heap.size):=lL HS4 hb.size;refine hK.out _ _ ⟨Ac hS.1 hb HS4,Ac hS.2 hb (Nat.lt_trans hbl HS4)⟩ (λhS=>?_);clear hb HB4 HS4;clear hK K;refine rd1 3 ⟨some 17,_,_,_,_,none⟩ rfl (λK hK=>?_);go_simp;refine(Ci _ _ HZ).mono ?_;rintro e w' ⟨rfl,rfl⟩;refine hK.out _ _ hS (λhS=>?_);clear hK K;rw[HNM.out];refine tz 4 18 (.bool true) ?_;refine tz 5 19 (.bool true) ?_;refine ts 6 20 ?_;refine ts 7 21 ?_;refine ts 8 22 ?_;refine ts 9 23 ?_;refine ts 10 24 ?_;refine ts 11 25 ?_;refine ts 12 26 ?_;refine ts 13 27 ?_;refine ts 14 28 ?_;refine ts 15 29 ?_;refine ts 16 30 ?_;refine ts 17 31 ?_;refine ts 18 32 ?_;refine ts 19 33 ?_;refine ts 20 34 ?_;refine tz 21 35 (.bool true) ?_;refine td ?_
   go_wp2
   go_ret;exact⟨Ab HC.out.symm,HB5⟩
  have HNM:=iH hnm
  cases k with
  |zero =>
   have HC:Hid (Cq (xs.map (·.name)) (0+1)=true):=by show _=_;simp only[Cq,Gm,HN.out,hnm,Bool.and_self]
   clear hnm hal ho;refine wp_region_held_drew (S:=λwy=>wy.rangeAt wr.heap.size 0 (ccL x a2 c2)/\wy.rangeAt b 0 []) (by kernel_rfl) ⟨Bk HG,Am _ _ _⟩ (λhS=>?_);have HB4:Hid (bW w (wr.alloc (Obj.cells (ccA x a2 c2) 54)).drew):=HBD;have HS4:Hid (wr.heap.size<(wr.alloc (Obj.cells (ccA x a2 c2) 54)).drew.heap.size):=by show _<_;simp
   clear HG HBD;refine tz 0 14 (.func (.func 93) #[] #[]) ?_;refine tm 1 15 wr.heap.size 0 (ccL x a2 c2) rfl (λ_ h=>h.1) underlying54 Bz hS ?_;refine rd1 2 ⟨some 16,_,_,_,_,none⟩ rfl (λK hK=>?_);go_simp;refine(Fu x a2 c2 _).mono ?_;rintro e w5⟨rfl,hb⟩;have HB5:=qTH HB4 hb;have HS5:Hid (wr.heap.size<w5.heap.size):=lL HS4 hb.size;refine hK.out _ _ ⟨Ac hS.1 hb HS4,Ac hS.2 hb (Nat.lt_trans hbl HS4)⟩ (λhS=>?_);clear hb HB4 HS4;clear hK K;refine rd1 3 ⟨some 17,_,_,_,_,none⟩ rfl (λK hK=>?_);go_simp;refine(Ci _ _ HZ).mono ?_;rintro e w' ⟨rfl,rfl⟩;refine hK.out _ _ hS (λhS=>?_);clear hK K;rw[HNM.out];refine tz 4 18 (.bool false) ?_;refine tz 5 19 (.bool false) ?_;refine tz 6 20 (X ((0:Nat):Int)) ?_;refine tz 7 21 (.bool false) ?_;refine tz 8 22 (.bool false) ?_;refine ts 9 23 ?_;refine ts 10 24 ?_;refine ts 11 25 ?_;refine ts 12 26 ?_;refine ts 13 27 ?_;refine ts 14 28 ?_;refine ts 15 29 ?_;refine ts 16 30 ?_;refine ts 17 31 ?_;refine ts 18 32 ?_;refine ts 19 33 ?_;refine tz 20 34 (.bool false) ?_;refine tz 21 35 (.bool false) ?_;refine td ?_
   go_wp2
   go_roundw
   case rel=>exact⟨0+1,by omega,by go_num,HC,HB5⟩
   simp[intOf];omega
  | succ m =>
   obtain⟨y,hy⟩:∃y,xs[m]?=some y:=⟨xs[m],gE (by omega)⟩;obtain⟨b',o',e',_,_,hc⟩:=HIR.out.at hy;cases e'
   obtain⟨b2,d2,q0,q1,q2,q3,q4,q5,q6,q7,q8,q9,q10,q11,z0,_,_,_,_,_,_⟩:=hc;simp only[Nat.add_zero]at q0 q1 q2 q3 q4 q5 q6 q7 q8 q9 q10 q11;have HGY:Hid ((wr.alloc (Obj.cells (ccA x a2 c2) 54)).rangeAt b (o+m*12) (ccL y b2 d2)):=Ac (Aa q0 (Aa q1 (Aa q2 (Aa q3 (Aa q4 (Aa q5 (Aa q6 (Aa q7 (Aa q8 (Aa q9 (Aa q10 (Aa q11 (Am _ _ _))))))))))))) hal hbl;have HNY:Hid ((xs.map (·.name))[m]?=some y.name):=by show _=_;rw[List.getElem?_map,hy];rfl
   clear hnm hal hy z0 q0 q1 q2 q3 q4 q5 q6 q7 q8 q9 q10 q11;refine wp_region_held_drew (S:=λwy=>wy.rangeAt wr.heap.size 0 (ccL x a2 c2)/\wy.rangeAt b (o+m*12) (ccL y b2 d2)) (by kernel_rfl) ⟨Bk HG,Bk HGY⟩ (λhS=>?_);have HB4:Hid (bW w (wr.alloc (Obj.cells (ccA x a2 c2) 54)).drew):=HBD;have HS4:Hid (wr.heap.size<(wr.alloc (Obj.cells (ccA x a2 c2) 54)).drew.heap.size):=by show _<_;simp
   clear HG HBD;refine tz 0 14 (.func (.func 93) #[] #[]) ?_;refine tm 1 15 wr.heap.size 0 (ccL x a2 c2) rfl (λ_ h=>h.1) underlying54 Bz hS ?_;refine rd1 2 ⟨some 16,_,_,_,_,none⟩ rfl (λK hK=>?_);go_simp;refine(Fu x a2 c2 _).mono ?_;rintro e w5⟨rfl,hb⟩;have HB5:=qTH HB4 hb;have HS5:Hid (wr.heap.size<w5.heap.size):=lL HS4 hb.size;refine hK.out _ _ ⟨Ac hS.1 hb HS4,Ac hS.2 hb (Nat.lt_trans hbl HS4)⟩ (λhS=>?_);clear hb HB4 HS4;clear hK K;refine rd1 3 ⟨some 17,_,_,_,_,none⟩ rfl (λK hK=>?_);go_simp;refine(Ci _ _ HZ).mono ?_;rintro e w' ⟨rfl,rfl⟩;refine hK.out _ _ hS (λhS=>?_);clear hK K;rw[HNM.out];refine tz 4 18 (.bool false) ?_;refine tz 5 19 (.bool false) ?_;refine tz 6 20 (X ((m+1:Nat):Int)) ?_;refine tz 7 21 (.bool true) ?_;refine tz 8 22 (.bool true) ?_;refine tz 9 23 (.func (.func 93) #[] #[]) ?_;refine tz 10 24 (sP b o xs.length cap) ?_;refine tz 11 25 (X ((m+1:Nat):Int)) ?_;refine ty 12 ⟨some 26,_,_,_,_,some (8,true)⟩ (X (m:Int)) ?_ ?_
   .intro wy hy
    clear hy;go_simp;rw[IntKind.wrap_i64];omega
   refine ty 13 ⟨some 27,_,_,_,_,some (8,true)⟩ (pP b (o+m*12)) ?_ ?_
   .intro wy hy
    clear hy;go_simp;intro hh;omega
   refine tm 14 28 b (o+m*12) (ccL y b2 d2) rfl (λ_ h=>h.2) underlying54 Bz hS ?_;refine tz 16 30 (.func (.func 93) #[] #[]) ?_;refine tm 17 31 wr.heap.size 0 (ccL x a2 c2) rfl (λ_ h=>h.1) underlying54 Bz hS ?_;refine rd1 15 ⟨some 29,_,_,_,_,some (8,true)⟩ rfl (λK hK=>?_);go_simp;refine(Fu y b2 d2 _).mono ?_;rintro e w6⟨rfl,hb⟩;have HB6:=qTH HB5 hb;have HS6:Hid (wr.heap.size<w6.heap.size):=lL HS5 hb.size;refine hK.out _ _ ⟨Ac hS.1 hb HS5,Ac hS.2 hb (Nat.lt_trans hbl HS5)⟩ (λhS=>?_);clear hb HB5 HS5;clear hK K;refine rd1 18 ⟨some 32,_,_,_,_,some (8,true)⟩ rfl (λK hK=>?_);go_simp;refine(Fu x a2 c2 _).mono ?_;rintro e w7⟨rfl,hb⟩;have HB7:=qTH HB6 hb;have HS7:Hid (wr.heap.size<w7.heap.size):=lL HS6 hb.size;refine hK.out _ _ ⟨Ac hS.1 hb HS6,Ac hS.2 hb (Nat.lt_trans hbl HS6)⟩ (λhS=>?_);clear hb HB6 HS6;clear hK K;cases hbl2:Op.bytesLess y.name.toList x.name.toList
   .have HC:Hid (Cq (xs.map (·.name)) xs.length=false):=Er (k:=m+1) (by simp only[Gm,HN.out,HNY.out,hbl2,Bool.and_false]) _ hlt
    refine tz 19 33 (.bool true) ?_;refine tz 20 34 (.bool true) ?_;refine tz 21 35 (.bool true) ?_;refine td ?_
    go_wp2
    go_ret;exact⟨Ab HC.out.symm,HB7⟩
   have HC:Hid (Cq (xs.map (·.name)) (m+1+1)=true):=by show _=_;rw[Cq,ho.out];simp only[Gm,HN.out,HNY.out,hbl2,HNM.out,Bool.and_self]
   refine tz 19 33 (.bool false) ?_;refine tz 20 34 (.bool false) ?_;refine tz 21 35 (.bool false) ?_;refine td ?_
   go_wp2
   go_roundw
   case rel=>exact⟨m+1+1,by omega,by go_num,HC,HB7⟩
   simp[intOf];omega
 have hke:k=xs.length:=by omega
 subst hke
 go_wp2
 go_ret;exact⟨Ab ho.out.symm,hbel⟩
end Go.Proofs.YthboopnmbglkjaaGreat
