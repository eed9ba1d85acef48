import Derived.Test.YtpidfnfilnkhkaaGreatJ16
set_option maxHeartbeats 4000000
namespace Go.Proofs.YtpidfnfilnkhkaaGreat
open Tryz
set_option maxRecDepth 100000
open Go.RowKit Tryz
def Cw(ms:List BA)(nm:BA):Nat->Bool
 |0=>true
 |j+1=>Cw ms nm j&&(match ms[j]? with
  |some t=>!decide (Ar t=nm)
  |none=>true)
def Lu(ms:List BA):Nat->Bool
 |0=>match ms[0]? with
  |none=>true
  |some m=>Ec m
 |j+1=>match ms[j+1]?,ms[j]? with
  |some m,some t=>Ec m&&Op.bytesLess t.toList m.toList&&!decide (Ar m=Ar t)&&Cw ms (Ar m) (j+1)
  |_,_=>true
def Ox(ms:List BA):Nat->Bool
 |0=>true
 |k+1=>Ox ms k&&Lu ms k
def Oc(ms:List BA):Bool:=decide (ms.length<=10)&&Ox ms ms.length
theorem Ve{ms:List BA}{k:Nat}(h:Lu ms k=false):∀n,k<n->Ox ms n=false
 |0,hn=>absurd hn (Nat.not_lt_zero _)
 |n+1,hn=>by
  by_cases e:k=n
  .subst e;simp only[Ox,h,Bool.and_false]
  .simp only[Ox,Ve h n (by omega),Bool.false_and]
theorem Vr{ms:List BA}{k:Nat}(h:Lu ms k=false)(hk:k<ms.length):Oc ms=false:=by
 simp only[Oc,Ve h _ hk,Bool.and_false]
theorem oG{ms:List BA}{k:Nat}(h:Ox ms k=true)(h':Lu ms k=true):Ox ms (k+1)=true:=by
 simp only[Ox,h,h',Bool.and_self]
theorem Rv{ms:List BA}{nm:BA}{q:Nat}{t:BA}(h:ms[q]?=some t)(h':Ar t=nm):∀n,q<n->Cw ms nm n=false
 |0,hn=>absurd hn (Nat.not_lt_zero _)
 |n+1,hn=>by
  by_cases e:q=n
  .subst e;simp only[Cw,h,h',decide_true,Bool.not_true,Bool.and_false]
  .simp only[Cw,Rv h h' n (by omega),Bool.false_and]
theorem jM{ms:List BA}{nm:BA}{q:Nat}{t:BA}(h:Cw ms nm q=true)(ht:ms[q]?=some t)(h':¬Ar t=nm):Cw ms nm (q+1)=true:=by
 simp only[Cw,h,ht,h',decide_false,Bool.not_false,Bool.and_self]
def Hp(ms:List BA)(k:Nat)(m L:BA):Bool :=
 !Ec m||(match k with
  |0=>false
  |j+1=>match ms[j]? with
   |some t=>!Op.bytesLess t.toList m.toList||decide (Ar m=L)
   |none=>false)
theorem fO{ms:List BA}{k:Nat}{m L:BA}(h:Ec m=false):Hp ms k m L=true:=by simp[Hp,h]
theorem Ud{ms:List BA}{m L:BA}(h:Ec m=true):Hp ms 0 m L=false:=by simp[Hp,h]
theorem Od{ms:List BA}{j k:Nat}{m L t:BA}(h:Ec m=true)(hk:k=j+1)(ht:ms[j]?=some t):Hp ms k m L=(!Op.bytesLess t.toList m.toList||decide (Ar m=L)):=by
 subst hk;simp only[Hp,h,ht,Bool.not_true,Bool.false_or]
theorem Xc{ms:List BA}{k:Nat}{m L:BA}(hx:ms[k]?=some m)(hl:∀j t,k=j+1->ms[j]?=some t->L=Ar t)(hlt:k<ms.length)(h1:Hp ms k m L=true):Lu ms k=false:=by
 cases k with
 |zero=>cases hi:Ec m with
  |false=>simp only[Lu,hx,hi]
  |true=>rw[Ud hi]at h1;cases h1
 | succ j =>
  obtain⟨t,htt⟩:∃t,ms[j]?=some t:=⟨ms[j],gE (by omega)⟩;have hlt':=hl j t rfl htt;subst hlt';simp only[Lu,hx,htt]
  cases hi:Ec m with
  |false=>simp
  | true =>
   rw[Od hi rfl htt]at h1
   cases hbl:Op.bytesLess t.toList m.toList with
   |false=>simp
   |true =>
    rw[hbl]at h1;simp at h1;simp[h1]
theorem Uj{ms:List BA}{k:Nat}{m L:BA}(hx:ms[k]?=some m)(hl:∀j t,k=j+1->ms[j]?=some t->L=Ar t)(hlt:k<ms.length)(h1:Hp ms k m L=false)(hf:Cw ms (Ar m) k=true):Lu ms k=true:=by
 cases hi:Ec m with
 |false=>rw[fO hi]at h1;cases h1
 |true =>
 cases k with
 |zero=>simp only[Lu,hx,hi]
 |succ j =>
  obtain⟨t,htt⟩:∃t,ms[j]?=some t:=⟨ms[j],gE (by omega)⟩;have hlt':=hl j t rfl htt;subst hlt';rw[Od hi rfl htt]at h1;simp only[Lu,hx,htt,hi,hf];simp at h1;simp[h1]
theorem Tu{ms:List BA}{k:Nat}{m:BA}(hx:ms[k]?=some m)(hlt:k<ms.length)(hf:Cw ms (Ar m) k=false):Lu ms k=false:=by
 cases k with
 |zero=>simp[Cw]at hf
 |succ j =>
  obtain⟨t,htt⟩:∃t,ms[j]?=some t:=⟨ms[j],gE (by omega)⟩;simp only[Lu,hx,htt,hf,Bool.and_false]
theorem aN(ms:List BA)(a:OA)(cap lo:Nat)(w:World)(hin:SliceC StrC 1 lo w a ms) :
  Calls prog 68 #[.slice a ms.length cap] w (Rt (.bool (Oc ms)) w):=by
 have hlen:=hin.1;unfold maxLen at hlen;have HI:=iH hin;clear hin;by_cases h10:ms.length<=10
 ·have HM:Hid (Oc ms=Ox ms ms.length):=by show _=_;simp[Oc,h10]
  go_enter func68,ntmps68
  go_wp2
  go_loopw [3,4] (λv i wr=>∃(k:Nat)(L:BA),k<=ms.length/\i=.int .i64 k/\v=.string L/\Hid (Ox ms k=true)/\Hid (∀j t,k=j+1->ms[j]?=some t->L=Ar t)/\Hid (Below w.heap.size w wr)) (λ_ i _=>ms.length-(intOf i).toNat)
  case atStart=>exact⟨0,_,zL,rfl,rfl,rfl,λj t h=>by omega,Below.refl _ _⟩
  case round =>
   obtain⟨k,L,hk,rfl,rfl,ht,hL,hb⟩:=hrel;by_cases hlt:k<ms.length
   .obtain⟨m,hm⟩:=gXe hlt
    obtain⟨b,o,rfl,_,_,hc⟩:=(HI.out.below StrC.holds hb.out nL).at hm;obtain⟨q0,z0⟩:=hc;simp only[Nat.mul_one,Nat.add_zero]at q0;have HX:=iH hm;have HZ:=iH z0;clear hm z0;go_wp2_with fail;refine(Mv m _ HZ).mono ?_;rintro e w2⟨rfl,hb2⟩;have HB2:=qTH hb hb2;have HI2:=iH (HI.out.below StrC.holds HB2 nL);clear hb2 hb q0;generalize hnm:Ar m=nm at *;have HNM:=iH hnm;clear hnm;generalize Fm m=vl at *;go_upto_region 8 with fail
    go_cut [52] (λc wx=>c=.bool (Hp ms k m L)/\Hid (Below w2.heap.size w2 wx))
    case first =>
     rcases Bool.eq_false_or_eq_true (Ec m)with hmk|hmk
     rotate_left
     case' _ =>
      have HR:Hid (Hp ms k m L=true):=by show _=_;exact fO hmk
     rotate_left
     case' _ =>
      rcases Nat.eq_zero_or_pos k with hk0|hk0
      case' _ =>
       subst hk0;have HR:Hid (Hp ms 0 m L=false):=by show _=_;exact Ud hmk
      rotate_left
      case' _ =>
       obtain⟨j,hj⟩:∃j,k=j+1:=⟨k-1,by omega⟩;obtain⟨t,htt⟩:∃t,ms[j]?=some t:=⟨ms[j],gE (by omega)⟩;obtain⟨b',o',hbo,_,_,hc'⟩:=HI2.out.at htt;cases hbo
       obtain⟨q1,z1⟩:=hc';obtain⟨b2,o2,hbo2,_,_,hc2⟩:=HI2.out.at HX;cases hbo2
       obtain⟨q2,_⟩:=hc2;simp only[Nat.mul_one,Nat.add_zero]at q1 q2;have q1':w2.cell? ⟨b,o+(k-1),none⟩=some (.string t):=by rw[show k-1=j from by omega];exact q1
       have r1:=cell_regrown q1';have r2:=cell_regrown q2;have hjl:j<ms.length:=by omega
       have i0:(0:Int)<=(j:Int):=by omega
       have i1:(j:Int)<(ms.length:Int):=by omega
       have i2:(0:Int)<(k:Int):=by omega
       have i3:(0:Int)<=(k:Int):=by omega
       have i4:(k:Int)<(ms.length:Int):=by omega
       have HWJ:Hid (IntKind.i64.wrap ((k:Int)-1)=(j:Int)):=by show _=_;rw[IntKind.wrap_i64];omega
       have HS:Hid (Hp ms k m L=(!Op.bytesLess t.toList m.toList||decide (nm=L))):=by show _=_;rw[Od hmk hj htt,HNM.out]
       clear z1 q1 q2 hj q1' HWJ;rcases Bool.eq_false_or_eq_true (Op.bytesLess t.toList m.toList)with hless|hless
       rotate_left
       case' _ =>
        have HR:Hid (Hp ms k m L=true):=by show _=_;rw[HS.out,hless];rfl
       rotate_left
       case' _ =>
        by_cases hne:nm=L
        case' _ =>
         have hte:=Br hne;have HR:Hid (Hp ms k m L=true):=by show _=_;rw[HS.out,hless,decide_eq_true hne];rfl
        rotate_left
        case' _ =>
         have hte:=Bu hne;have HR:Hid (Hp ms k m L=false):=by show _=_;rw[HS.out,hless,decide_eq_false hne];rfl
        rotate_left
       rotate_left 2
      rotate_left 3
     rotate_left 4
     all_goals
      clear hL ht HI2 HM;refine wp_region_quiet_below (by kernel_rfl) (by kernel_rfl) ?_
      repeat(go_big_quiet_step (fail))
      refine wpQuiet_nil ?_;intro w5 hw';obtain⟨⟨dq,osq⟩,hw''⟩:=hw';have hB:=below_regrown w2 dq osq;simp only[]at hw'';rw[<-hw'']at hB;clear hw''
      go_wp2
      go_meet;exact⟨by rw[HR.out],hB⟩
    case rest =>
     obtain⟨rfl,hbc⟩:=hcut;have HB3:=iH (HB2.out.trans (hbc.out.mono HB2.out.size));clear hbc HB2
     cases hbd:Hp ms k m L with
     |true =>
      have HC:Hid (Oc ms=false):=Vr (k:=k) (Xc HX hL.out hlt hbd) hlt;clear hL ht hbd
      go_wp2
      go_ret;exact⟨Ab HC.out.symm,HB3⟩
     | false =>
      have HA:Hid (Cw ms nm k=true->Lu ms k=true):=λhf=>Uj HX hL.out hlt hbd (by rw[HNM.out];exact hf)
      have HF:Hid (Cw ms nm k=false->Lu ms k=false):=λhf=>Tu HX hlt (by rw[HNM.out];exact hf)
      clear hL hbd;go_wp2_with fail;obtain⟨wo,hwo⟩:∃wo,wo=wc:=⟨_,rfl⟩;subst hwo;go_loopw [8] (λi wx=>∃q:Nat,q<=k/\i=.int .i64 q/\Hid (Cw ms nm q=true)/\Hid (Below w.heap.size w wx)) (λi _=>k-(intOf i).toNat)
      case atStart=>exact⟨0,zL,rfl,rfl,HB3⟩
      case round =>
       clear HB3;obtain⟨q,hq,rfl,hfr,hbq⟩:=hrel;by_cases hql:q<k
       .obtain⟨t,htt⟩:∃t,ms[q]?=some t:=⟨ms[q],gE (by omega)⟩
        obtain⟨b',o',hbo,_,_,hc'⟩:=(HI.out.below StrC.holds hbq.out nL).at htt;cases hbo
        obtain⟨q1,z1⟩:=hc';simp only[Nat.mul_one,Nat.add_zero]at q1;have HT:=iH htt;have HTZ:=iH z1;have hqm:q<ms.length:=by omega
        clear htt z1;go_wp2_with fail;refine(Mv t _ HTZ).mono ?_;rintro e w5⟨rfl,hb5⟩;have HB5:=qTH hbq hb5;clear hb5 hbq q1;by_cases hne:Ar t=nm
        .have HC:Hid (Oc ms=false):=Vr (k:=k) (HF (Rv HT hne k hql)) hlt
         have hte:=Br hne;generalize Ar t=nt at *;generalize Fm t=vt at *;clear hne HA HF ht hfr
         go_wp2
         go_ret;exact⟨Ab HC.out.symm,HB5⟩
        .have HN:Hid (Cw ms nm (q+1)=true):=jM hfr.out HT hne
         have hte:=Bu hne;generalize Ar t=nt at *;generalize Fm t=vt at *;clear hne hfr
         go_wp2
         go_roundw
         case rel=>exact⟨q+1,by omega,by go_num,HN,HB5⟩
         case measure=>simp[intOf];omega
       .have hqe:q=k:=by omega
        subst hqe;have HN:Hid (Ox ms (q+1)=true):=oG ht.out (HA hfr.out);have HLN:Hid (∀j t,q+1=j+1->ms[j]?=some t->nm=Ar t):=by
         intro j t hj htt;have e:q=j:=Nat.succ.inj hj;subst e;rw[HX.out]at htt;cases htt
         exact HNM.out.symm
        clear hfr HA HF ht
        go_wp2
        go_roundw
        case rel=>exact⟨q+1,nm,by omega,by go_num,rfl,HN,HLN,hbq⟩
        case measure=>simp[intOf];omega
   .have hke:k=ms.length:=by omega
    subst hke;have HC:Hid (Oc ms=true):=by show _=_;rw[HM.out];exact ht.out
    clear ht
    go_wp2
    go_ret;exact⟨Ab HC.out.symm,hb.out⟩
 .have HM:Hid (Oc ms=false):=by show _=_;simp[Oc,h10]
  go_enter func68,ntmps68
  go_wp2
  go_ret;exact⟨Ab HM.out.symm,by go_grown⟩
def Mp(x:Brt):Bool:=P.nameOk x.name&&(P.nameOk x.zone&&(Oc x.marks&&(inB x.room 0 1000&&inB x.hold 0 1000)))
theorem aY(x:Brt)(a2:OA)(c2 lo:Nat)(w:World)(z0:x.name.size<=maxLen)(z1:x.zone.size<=maxLen)(hin:SliceC StrC 1 lo w a2 x.marks) :
  Calls prog 42 #[.agg (bbA x a2 c2)] w (Rt (.bool (Mp x)) w):=by
 have HI:=iH hin;have Z0:=iH z0;have Z1:=iH z1;have HD:Hid (Mp x=(P.nameOk x.name&&(P.nameOk x.zone&&(Oc x.marks&&(inB x.room 0 1000&&inB x.hold 0 1000))))):=rfl;clear hin z0 z1;generalize Mp x=V at *;go_enter func42,ntmps42;go_wp2_with fail;have HR:=qRa w (bbA x a2 c2) 52 (bbL x a2 c2);have HB:=iH ((Below.refl _ w).alloc nL (Obj.cells (bbA x a2 c2) 52));have HS:Hid (w.heap.size<(w.alloc (Obj.cells (bbA x a2 c2) 52)).heap.size):=by show _<_;simp
 generalize w.alloc (Obj.cells (bbA x a2 c2) 52)=w0 at *;refine(Be x.name _ Z0).mono ?_;rintro e w1⟨rfl,rfl⟩
 cases h0:P.nameOk x.name with
 |false =>
  have HC:Hid (V=false):=by show _=_;rw[HD.out,h0];rfl
  clear h0 HD
  go_wp2
  go_ret;exact⟨Ab HC.out.symm,HB⟩
 |true =>
 rw[h0,Bool.true_and]at HD;clear h0;have e1:w1.cell? ⟨w.heap.size,1,none⟩=some (.string x.zone):=HR.out 1 _ rfl;go_wp2_with fail;clear e1;refine(Be x.zone _ Z1).mono ?_;rintro e w1⟨rfl,rfl⟩
 cases h0:P.nameOk x.zone with
 |false =>
  have HC:Hid (V=false):=by show _=_;rw[HD.out,h0];rfl
  clear h0 HD
  go_wp2
  go_ret;exact⟨Ab HC.out.symm,HB⟩
 |true =>
 rw[h0,Bool.true_and]at HD;clear h0;have e2:w1.cell? ⟨w.heap.size,2,none⟩=some (.slice a2 x.marks.length c2):=HR.out 2 _ rfl;go_wp2_with fail;clear e2;refine(aN x.marks a2 c2 lo _ (HI.out.below StrC.holds HB nL)).mono ?_;rintro e w2⟨rfl,hb⟩;have HR2:=iH (Ae HR hb HS);have HB2:=qTH HB hb;clear hb HR HB HS
 cases h0:Oc x.marks with
 |false =>
  have HC:Hid (V=false):=by show _=_;rw[HD.out,h0];rfl
  clear h0 HD
  go_wp2
  go_ret;exact⟨Ab HC.out.symm,HB2⟩
 |true =>
 rw[h0,Bool.true_and]at HD;clear h0;have e3:w2.cell? ⟨w.heap.size,3,none⟩=some (.int .i64 x.room):=HR2.out 3 _ rfl;go_wp2_with fail;clear e3;refine(Ff _ _ _ _).mono ?_;rintro e w3⟨rfl,rfl⟩
 cases h0:inB x.room 0 1000 with
 |false =>
  have HC:Hid (V=false):=by show _=_;rw[HD.out,h0];rfl
  clear h0 HD
  go_wp2
  go_ret;exact⟨Ab HC.out.symm,HB2⟩
 |true =>
 rw[h0,Bool.true_and]at HD;clear h0;have e4:w3.cell? ⟨w.heap.size,4,none⟩=some (.int .i64 x.hold):=HR2.out 4 _ rfl;go_wp2_with fail;clear e4;refine(Ff _ _ _ _).mono ?_;rintro e w3⟨rfl,rfl⟩;generalize inB x.hold 0 1000=bb at *
 go_wp2
 go_ret;exact⟨Ab HD.out.symm,HB2⟩
def Qy(xs:List Svc)(s:BA):Int:=match xs.findIdx? (λb=>decide (b.name=s))with
 |some k=>k
 |none=>-1
theorem uW{bs:List Svc}{s:BA}{k:Nat}{x:Svc}(hk:bs[k]?=some x)(h:x.name=s)(ho:∀j b,j<k->bs[j]?=some b->b.name≠s):Qy bs s=k:=by
 have:bs.findIdx? (λb=>decide (b.name=s))=some k:=by
  rw[List.findIdx?_eq_some_iff_getElem];obtain⟨hlt,hx⟩:=List.getElem?_eq_some_iff.mp hk;refine⟨hlt,by rw[hx];exact decide_eq_true h,λj hj=>?_⟩;have:=ho j bs[j] hj (gE (by omega));simpa using this
 unfold Qy;rw[this]
theorem mO{bs:List Svc}{s:BA}(ho:∀j b,j<bs.length->bs[j]?=some b->b.name≠s):Qy bs s=-1:=by
 have:bs.findIdx? (λb=>decide (b.name=s))=none:=by
  rw[List.findIdx?_eq_none_iff];intro b hb;obtain⟨j,hj,e⟩:=List.mem_iff_getElem.mp hb;have:=ho j b hj (by rw[gE hj,e]);simpa using this
 unfold Qy;rw[this]
theorem aI(x:Flt)(a1:OA)(c1:Nat)(a2:OA)(c2:Nat)(a3:OA)(c3:Nat)(lo:Nat)(s:BA)(w:World)(n1:SliceC SvcC 2 lo w a2 x.services)(hl:x.services.length<=1048576) :
  Calls prog 40 #[.agg (ffA x a1 c1 a2 c2 a3 c3),.string s] w (Rt (.int .i64 (Qy x.services s)) w):=by
 have HI:=iH n1;clear n1
 try unfold ffA
 generalize hbs:x.services=bs at *;clear hbs;go_enter func40,ntmps40
 go_wp2
 go_loopw [5] (λi wr=>∃k:Nat,k<=bs.length/\i=.int .i64 k/\wr.cell? ⟨w.heap.size,2,none⟩=some (.slice a2 bs.length c2)/\Hid (∀j b,j<k->bs[j]?=some b->b.name≠s)/\Below w.heap.size w wr) (λi _=>bs.length-(intOf i).toNat)
 case atStart=>exact⟨0,zL,rfl,by simp,λj b h=>by omega,by go_grown⟩
 case round =>
  obtain⟨k,hk,rfl,hcell,ho,hbel⟩:=hrel;by_cases hlt:k<bs.length
  .obtain⟨y,hx⟩:∃x,bs[k]?=some x:=⟨bs[k],gE hlt⟩
   obtain⟨b,o,rfl,_,_,hc⟩:=(HI.out.below SvcC.holds hbel nL).at hx;obtain⟨q0,q1,z0⟩:=hc;simp only[Nat.add_zero]at q0;have HX:=iH hx;clear hx q1 z0;by_cases h:y.name=s
   .have HZ:Hid (Qy bs s=k):=uW HX h ho.out
    have ht:=Br h;clear h
    go_wp2
    go_ret;exact⟨Am HZ.out.symm,hbel⟩
   .have ht:=Bu h
    go_wp2
    go_roundw
    case rel =>
     refine⟨k+1,by omega,by go_num,hcell,?_,hbel⟩;intro j y hj hy;by_cases e:j=k
     .subst e
      rw[HX.out]at hy;cases hy
      exact h
     .exact ho.out j y (by omega) hy
    case measure=>simp[intOf];omega
  .have hke:k=bs.length:=by omega
   have HZ:Hid (Qy bs s=-1):=mO (hke▸ho.out)
   go_wp2
   go_ret;exact⟨Am HZ.out.symm,hbel⟩
def Fk(cs:List Cpy)(s:BA):Nat->Nat
 |0=>0
 |k+1=>match cs[k]? with
  |some c=>if c.at_=s then Fk cs s k+1 else Fk cs s k
  |none=>Fk cs s k
theorem dX(cs:List Cpy)(s:BA):∀k,Fk cs s k<=k
 |0=>Nat.le_refl _
 |k+1=>by
  have:=dX cs s k;unfold Fk
  split
  .split<;>omega
  .omega
theorem kA(x:Flt)(a1:OA)(c1:Nat)(a2:OA)(c2:Nat)(a3:OA)(c3:Nat)(lo:Nat)(s:BA)(w:World)(n1:SliceC CpyC 12 lo w a3 x.copies)(hl:x.copies.length<=1048576) :
  Calls prog 43 #[.agg (ffA x a1 c1 a2 c2 a3 c3),.string s] w (Rt (.int .i64 (Fk x.copies s x.copies.length)) w):=by
 have HI:=iH n1;clear n1
 try unfold ffA
 generalize hbs:x.copies=bs at *;clear hbs;go_enter func43,ntmps43
 go_wp2
 go_loopw [5,6] (λv i wr=>∃(k c:Nat),k<=bs.length/\i=.int .i64 k/\v=.int .i64 c/\c<=k/\Hid (c=Fk bs s k)/\wr.cell? ⟨w.heap.size,3,none⟩=some (.slice a3 bs.length c3)/\Below w.heap.size w wr) (λ_ i _=>bs.length-(intOf i).toNat)
 case atStart=>exact⟨0,0,zL,rfl,rfl,Nat.le_refl _,rfl,by simp,by go_grown⟩
 case round =>
  obtain⟨k,c,hk,rfl,rfl,hck,hcc,hcell,hbel⟩:=hrel;by_cases hlt:k<bs.length
  .obtain⟨y,hx⟩:∃x,bs[k]?=some x:=⟨bs[k],gE hlt⟩
   obtain⟨b,o,rfl,_,_,hc⟩:=(HI.out.below CpyC.holds hbel nL).at hx;obtain⟨a7,c7,q0,q1,q2,q3,q4,q5,q6,q7,q8,q9,q10,q11,_⟩:=hc;have HX:=iH hx;clear hx q0 q1 q2 q3 q4 q5 q6 q7 q8 q9 q10;by_cases h:y.at_=s
   .have HN:Hid (c+1=Fk bs s (k+1)):=by show _=_;simp only[Fk,HX.out,if_pos h,<-hcc.out]
    have ht:=Br h;clear h hcc
    go_wp2
    go_roundw
    case rel=>exact⟨k+1,c+1,by omega,by go_num,by go_num,by omega,HN,hcell,hbel⟩
    case measure=>simp[intOf];omega
   .have HN:Hid (c=Fk bs s (k+1)):=by show _=_;simp only[Fk,HX.out,if_neg h,<-hcc.out]
    have ht:=Bu h;clear hcc
    go_wp2
    go_roundw
    case rel=>exact⟨k+1,c,by omega,by go_num,rfl,by omega,HN,hcell,hbel⟩
    case measure=>simp[intOf];omega
  .have hke:k=bs.length:=by omega
   subst hke
   go_wp2
   go_ret;exact⟨Am (by rw[hcc.out]),hbel⟩
end Go.Proofs.YtpidfnfilnkhkaaGreat
