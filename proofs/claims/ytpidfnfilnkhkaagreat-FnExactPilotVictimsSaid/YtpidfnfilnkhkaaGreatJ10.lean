import Derived.Test.YtpidfnfilnkhkaaGreatJ9
import Derived.Lib.Strings
import Derived.Lib.Slices
import Derived.Lib.Walk
import Derived.Lib.Bytealg
import Derived.Lib.IndexLaws
set_option maxHeartbeats 2000000
namespace Go.Proofs.YtpidfnfilnkhkaaGreat
open Tryz
set_option maxRecDepth 100000
open Go.RowKit Tryz
theorem xN{a b:BA}(h:¬a=b):(a.toList==b.toList)=false:=by
 rw[ByteArray.toList_eq,ByteArray.toList_eq]
 have:¬a.data.toList=b.data.toList:=λe=>h (by
  cases a with|mk x=>cases b with|mk y=>cases x;cases y;simp at e;simp[e])
 simpa using this
theorem xP{a b:BA}(h:a=b):(a.toList==b.toList)=true:=by subst h;simp
def inR(n a b:Int):Bool:=decide (a<=n)&&decide (n<=b)
theorem Kb(n a b:Int)(w:World) :
  Calls prog 131 #[.int .i64 n,.int .i64 a,.int .i64 b] w (Rt (.bool (inR n a b)) w):=by
 by_cases h1:a<=n
 .by_cases h2:n<=b
  .have HC:Hid (inR n a b=true):=by show _=_;simp[inR,h1,h2]
   go_enter func131,ntmps131
   go_wp2
   go_ret;exact⟨Ab HC.out.symm,by go_grown⟩
  .have HC:Hid (inR n a b=false):=by show _=_;simp[inR,h2]
   go_enter func131,ntmps131
   go_wp2
   go_ret;exact⟨Ab HC.out.symm,by go_grown⟩
 .have HC:Hid (inR n a b=false):=by show _=_;simp[inR,h1]
  go_enter func131,ntmps131
  go_wp2
  go_ret;exact⟨Ab HC.out.symm,by go_grown⟩
theorem Lm(n:Int)(w:World) :
  Calls prog 129 #[.int .i64 n] w (Rt (.bool (inR n 0 1000)) w):=by
 go_enter func129,ntmps129;go_wp2_with fail;refine(Kb _ _ _ _).mono ?_;rintro e w1⟨rfl,hb⟩
 go_wp2
 go_ret;exact⟨rfl,hb⟩
def Cg(s:BA):Bool:=decide (s.size=0)||P.nameOk s
theorem Jy(s:BA)(w:World)(hs:s.size<=maxLen) :
  Calls prog 164 #[.string s] w (Rt (.bool (Cg s)) w):=by
 by_cases h:s=⟨#[]⟩
 .have HC:Hid (Cg s=true):=by show _=_;subst h;rfl
  have hte:s.toList=[]:=by subst h;simp
  clear h;go_enter func164,ntmps164
  go_wp2
  go_ret;exact⟨Ab HC.out.symm,by go_grown⟩
 .have HC:Hid (Cg s=P.nameOk s):=by
   show _=_
   have:s.size≠0:=λe=>h (ByteArray.ext (Array.eq_empty_of_size_eq_zero e))
   simp[Cg,this]
  have hte:¬s.toList=[]:=by
   rw[ByteArray.toList_eq];exact λe=>h (by cases s with|mk x=>cases x;simp at e;simp[e])
  have HZ:=iH hs;clear h hs;go_enter func164,ntmps164;go_wp2_with fail;refine(Ch _ _ HZ).mono ?_;rintro e w1⟨rfl,rfl⟩
  go_wp2
  go_ret;have hem:s.toList.isEmpty=false:=by simpa using hte
  exact⟨Ab (by rw[hem,Bool.false_or];exact HC.out.symm),by go_grown⟩
def Ho(l:Lik):Bool:=decide (Aq l.select=0)&&inR l.weight (-9) 9
def Ev(xs:List Lik):Bool:=decide (xs.length<=5)&&xs.all Ho
theorem fZ(xs:List Lik)(a:OA)(cap lo:Nat)(w:World)(hin:SliceC LikC 2 lo w a xs) :
  Calls prog 163 #[.slice a xs.length cap] w (Rt (.bool (Ev xs)) w):=by
 have hlen:=hin.1;unfold maxLen at hlen;have HI:=iH hin;clear hin;by_cases h5:xs.length<=5
 .go_enter func163,ntmps163
  go_wp2
  go_loopw [10] (λi wr=>∃k:Nat,k<=xs.length/\i=.int .i64 k/\Hid (∀j x,j<k->xs[j]?=some x->Ho x=true)/\Below w.heap.size w wr) (λi _=>xs.length-(intOf i).toNat)
  case atStart=>exact⟨0,zL,rfl,λj x h=>absurd h (Nat.not_lt_zero _),by go_grown⟩
  case round =>
   obtain⟨k,hk,rfl,ho,hbel⟩:=hrel;by_cases hlt:k<xs.length
   .obtain⟨x,hx⟩:=gXe hlt
    obtain⟨b,o,rfl,_,_,hc⟩:=(HI.out.below LikC.holds hbel nL).at hx;obtain⟨q0,q1,z0⟩:=hc;simp only[Nat.add_zero]at q0 q1;have HX:=iH hx;have HZ:=iH z0;have HB:=iH hbel;have HSZ:Hid (w.heap.size<=wr.heap.size):=hbel.size;clear hx z0 hbel;go_upto_region 6 with fail;have e0:(wr.alloc (Obj.cells #[.string x.select,.int .i64 x.weight] 127)).cell? ⟨wr.heap.size,0,none⟩=some (.string x.select):=by simp
    have e1:(wr.alloc (Obj.cells #[.string x.select,.int .i64 x.weight] 127)).cell? ⟨wr.heap.size,1,none⟩=some (.int .i64 x.weight):=by simp
    have HB4:Hid (Below w.heap.size w (wr.alloc (Obj.cells #[.string x.select,.int .i64 x.weight] 127))):=HB.out.alloc HSZ _;have hs4:wr.heap.size<(wr.alloc (Obj.cells #[.string x.select,.int .i64 x.weight] 127)).heap.size:=by simp
    clear HB HSZ q0 q1;generalize wr.alloc (Obj.cells #[.string x.select,.int .i64 x.weight] 127)=w4 at *;cases hr:decide (Aq x.select=0)
    .have HC:Hid (Ev xs=false):=by
      show _=_
      have hm:=List.mem_of_getElem? HX;have:Ho x=false:=by simp[Ho,hr]
      have:xs.all Ho=false:=List.all_eq_false.mpr ⟨x,hm,by simp[this]⟩;simp[Ev,this]
     have HR:=iH hr;clear hr;go_wp2_with fail;refine(Oq _ _ HZ).mono ?_;rintro e w5⟨rfl,hb5⟩;rw[HR.out];have HB5:=qTH HB4 hb5;clear hb5
     go_wp2
     go_ret;exact⟨Ab HC.out.symm,HB5⟩
    .have HR:=iH hr
     go_wp2_with fail;refine(Oq _ _ HZ).mono ?_;rintro e w5⟨rfl,hb5⟩;rw[HR.out];have e5:w5.cell? ⟨wr.heap.size,1,none⟩=some (.int .i64 x.weight):=by rw[hb5.cell (p:=⟨wr.heap.size,1,none⟩) hs4];exact e1
     have HB5:=qTH HB4 hb5;clear hb5 e0 e1 hs4 HB4;go_wp2_with fail;refine(Kb _ _ _ _).mono ?_;rintro e w6⟨rfl,hb6⟩;have HB6:=qTH HB5 hb6;clear hb6 HB5 e5;cases hi:inR x.weight (-9) 9
     .have HC:Hid (Ev xs=false):=by
       show _=_
       have hm:=List.mem_of_getElem? HX;have:Ho x=false:=by simp[Ho,hi]
       have:xs.all Ho=false:=List.all_eq_false.mpr ⟨x,hm,by simp[this]⟩;simp[Ev,this]
      clear hi hr
      go_wp2
      go_ret;exact⟨Ab HC.out.symm,HB6⟩
     .have HO:Hid (∀j y,j<k+1->xs[j]?=some y->Ho y=true):=by
       intro j y hj hy;by_cases e:j=k
       .subst e
        rw[HX.out]at hy;cases hy
        simp only[Ho,hi,HR.out,Bool.and_self]
       .exact ho.out j y (by omega) hy
      clear hi hr ho
      go_wp2
      go_roundw
      case rel=>exact⟨k+1,by omega,by go_num,HO,HB6⟩
      case measure=>simp[intOf];omega
   .have hke:k=xs.length:=by omega
    subst hke;have HC:Hid (Ev xs=true):=by
     show _=_
     simp only[Ev,h5,decide_true,Bool.true_and,List.all_eq_true];intro x hx;obtain⟨j,hj,e⟩:=List.mem_iff_getElem.mp hx;exact ho.out j x hj (by rw[gE hj,e])
    clear ho
    go_wp2
    go_ret;exact⟨Ab HC.out.symm,hbel⟩
 .have HC:Hid (Ev xs=false):=by show _=_;simp[Ev,h5]
  go_enter func163,ntmps163
  go_wp2
  go_ret;exact⟨Ab HC.out.symm,by go_grown⟩
theorem Wr(s:BA)(c:Int)(w:World) :
  Calls prog 213 #[.string s,.int .u8 c] w λe w'=>e=.returned (.int .i64 (Lib.indexByte s.data.toList c.toNat.toUInt8))/\w'=w:=by
 go_enter func213,ntmps213
 go_wp2
 rw[run_callFunc_extern func221 (by kernel_rfl) (by kernel_rfl) (by kernel_rfl) (e:=Extern.BytealgIndexByte.indexByte) (by kernel_rfl),Lib.run_indexByteString];simp only[Result.andThen];rw[Oper.upon_value]
 go_wp2
 go_ret;exact⟨rfl,rfl⟩
def Cc(s:BA):Int:=Lib.indexByte s.data.toList 61
def Ar(s:BA):BA:=if Cc s<0 then s else s.extract 0 (Cc s).toNat
def Fm(s:BA):BA:=if Cc s<0 then⟨#[]⟩else s.extract ((Cc s).toNat+1) s.size
def Ec(s:BA):Bool:=P.nameOk (Ar s)&&(decide (Cc s<0)||P.nameOk (Fm s))
theorem Yi(s:BA)(w:World) :
  Calls prog 201 #[.string s,.string ⟨#[61]⟩] w λe w'=>e=.returned (.int .i64 (Cc s))/\w'=w:=by
 go_enter func201,ntmps201;go_wp2_with(go_at_call 213;refine(Wr _ _ _).mono ?_;rintro e w' ⟨rfl,rfl⟩)
 .have h:([61]==s.toList)=true:=by assumption
  go_ret;refine⟨?_,rfl⟩;have e:s.data.toList=[61]:=by rw[<-Lib.toList_data];exact(beq_iff_eq.1 h).symm
  unfold Cc;rw[e];simp[Lib.indexByte]
 .go_ret
  exact⟨rfl,rfl⟩
theorem Vj(s:BA):-1<=Cc s:=Lib.indexByte_ge _ _
theorem We{s:BA}{o:Nat}(h:Cc s=o):o<s.size:=by
 have:=(Lib.indexByte_some h).1;rcases Nat.lt_or_ge o s.data.toList.length with h'|h'
 .simpa using h'
 .rw[List.getElem?_eq_none h']at this;cases this
theorem dR(s:BA)(w:World)(hs:s.size<=maxLen) :
  Calls prog 183 #[.string s,.string ⟨#[61]⟩] w (Rt (.tuple #[.string (Ar s),.string (Fm s),.bool (!decide (Cc s<0))]) w):=by
 unfold maxLen at hs;by_cases hn:Cc s<0
 .have HN:=iH hn
  have h1:Cc s=-1:=by have:=Vj s;omega
  go_enter func183,ntmps183;go_wp2_with(go_at_call 201;refine(Yi _ _).mono ?_;rintro e w' ⟨rfl,rfl⟩;rw[h1])
  go_ret3
  exact⟨by unfold Ar Fm;rw[if_pos HN.out,if_pos HN.out,decide_eq_true HN.out];rfl,by go_grown⟩
 .obtain⟨o,ho⟩:∃o:Nat,Cc s=o:=⟨(Cc s).toNat,by omega⟩
  have hlt:=We ho;have HN:=iH hn;have HO:=iH ho;clear hn;go_enter func183,ntmps183;go_wp2_with(go_at_call 201;refine(Yi _ _).mono ?_;rintro e w' ⟨rfl,rfl⟩;rw[HO.out]);have i0:(0:Int)<=(o:Int):=by omega
  have i1:(o:Int)<=(s.size:Int):=by omega
  obtain⟨n1,hn1⟩:∃n1:Nat,n1=o+1:=⟨_,rfl⟩;have i2:(n1:Int)<=(s.size:Int):=by omega
  have i3:(0:Int)<=(n1:Int):=by omega
  have HW:Hid (IntKind.i64.wrap ((o:Int)+1)=(n1:Int)):=by show _=_;rw[IntKind.wrap_i64];omega
  have HN1:=iH hn1;clear hn1;clear ho;refine wp_region_quiet_below (by kernel_rfl) (by kernel_rfl) ?_
  repeat(quiet_step (fail))
  rw[HW.out]
  repeat(quiet_step (fail))
  refine wpQuiet_nil ?_;intro _ hw';obtain⟨⟨dq,osq⟩,hw''⟩:=hw';have hB:=below_regrown w' dq osq;simp only[]at hw'';rw[<-hw'']at hB;clear hw'';have HB:=iH hB;clear hB;go_wp2_with fail
  go_ret3
  have HN2:¬Cc s<0:=by have:=HN.out;omega
  refine⟨?_,HB⟩;unfold Ar Fm;rw[if_neg HN2,if_neg HN2,decide_eq_false HN2,HO.out];simp[HN1.out]
theorem Sy(s:BA)(w:World)(hs:s.size<=maxLen) :
  Calls prog 161 #[.string s,.string ⟨#[61]⟩] w (Rt (.tuple #[.string (Ar s),.string (Fm s),.bool (!decide (Cc s<0))]) w):=by
 have HS:=iH hs;clear hs;go_enter func161,ntmps161;go_wp2_with fail;refine(dR s _ HS).mono ?_;rintro e w1⟨rfl,hb⟩;have HB:Hid (Below w.heap.size w w1):=(show Below w.heap.size w _ by go_grown).trans (hb.mono (by simp));clear hb;go_wp2_with fail
 go_ret3
 exact⟨rfl,HB⟩
theorem Lg{s:BA}(hs:s.size<=maxLen):(Ar s).size<=maxLen:=by
 unfold Ar
 split
 .exact hs
 .simp[ByteArray.size_extract];omega
theorem Yr{s:BA}(hs:s.size<=maxLen):(Fm s).size<=maxLen:=by
 unfold Fm
 split
 .simp[ByteArray.size,maxLen]
 .simp[ByteArray.size_extract];omega
theorem Vl(s:BA)(w:World)(hs:s.size<=maxLen) :
  Calls prog 160 #[.string s] w (Rt (.bool (Ec s)) w):=by
 have HS:=iH hs;have HM:Hid (Ec s=(P.nameOk (Ar s)&&(decide (Cc s<0)||P.nameOk (Fm s)))):=rfl;clear hs;generalize Ec s=R at *;go_enter func160,ntmps160;go_wp2_with fail;refine(Sy s _ HS).mono ?_;rintro e w1⟨rfl,hb⟩;have HB:Hid (Below w.heap.size w w1):=(show Below w.heap.size w _ by go_grown).trans (hb.mono (by simp));clear hb;have Z1:Hid ((Ar s).size<=maxLen):=Lg HS;have Z2:Hid ((Fm s).size<=maxLen):=Yr HS;generalize Ar s=x at *;generalize Fm s=y at *;generalize decide (Cc s<0)=b at *;go_wp2_with fail;refine(Ch x _ Z1).mono ?_;rintro e w2⟨rfl,rfl⟩
 cases hx:P.nameOk x with
 |false =>
  rw[hx]at HM
  go_wp2
  go_ret;exact⟨Ab (by rw[HM.out];rfl),HB⟩
 | true =>
  rw[hx]at HM
  cases b with
  |true =>
   go_wp2
   go_ret;exact⟨Ab (by rw[HM.out];rfl),HB⟩
  |false =>
   go_wp2_with fail;refine(Ch y _ Z2).mono ?_;rintro e w2⟨rfl,rfl⟩;generalize P.nameOk y=c at *
   go_wp2
   go_ret;exact⟨Ab (by rw[HM.out];simp),HB⟩
structure Svc where
 name:BA
 spare:Int
def Dz(x:Svc):Nat:=x.name.size
def SvcC:En Svc:=λ_ _ f x=>f 0=some (.string x.name)/\f 1=some (.int .i64 x.spare)/\x.name.size<=maxLen
theorem SvcC.holds:Holds SvcC 2:=by
 rintro lo lo' w w' f g x h _ _⟨q0,q1,z0⟩;exact⟨(h 0 (by omega)).trans q0,(h 1 (by omega)).trans q1,z0⟩
theorem nB(x:Svc)(L:Int)(w:World)(z0:x.name.size<=maxLen)(h0:0<=L)(h1:L<=1048576) :
  Calls prog 35 #[.agg #[.string x.name,.int .i64 x.spare],.int .i64 L] w (Rt (.int .i64 (szR (Dz x) L)) w):=by
 unfold maxLen at z0;have HW:Hid (Dz x=x.name.size):=rfl;generalize Dz x=W at *;by_cases d0:L-(x.name.size:Nat)<0
 .go_enter func35,ntmps35
  go_wp2
  go_ret;exact⟨Am (by have:=HW.out;unfold szR;rw[if_neg (by omega)]),by go_grown⟩
 .skip
  go_enter func35,ntmps35
  go_wp2
  go_ret;exact⟨Am (by have:=HW.out;unfold szR;rw[if_pos (by omega)];omega),by go_grown⟩
theorem Ld:(prog.info? 88).map (·.size)=some 2:=by kernel_rfl
theorem lH:Qo 88 2:=⟨_,underlying88,rfl,Ld⟩
theorem nX(x:Svc)(w:World) :
  Calls prog 51 #[.agg #[.string x.name,.int .i64 x.spare]] w (Rt (.agg #[.string x.name,.int .i64 x.spare]) w):=by
 go_enter func51,ntmps51
 go_wp2
 go_returns
 exact⟨rfl,by go_grown⟩
theorem pO(x:Svc)(w:World) :
  Calls prog 61 #[.agg #[.string x.name,.int .i64 x.spare],.agg #[.string x.name,.int .i64 x.spare]] w (Rt (.bool true) w):=by
 go_enter func61,ntmps61
 go_wp2
 go_ret;exact⟨rfl,by go_grown⟩
theorem gO(xs:List Svc)(a:OA)(cap lo:Nat)(L:Int)(w:World)(hin:SliceC SvcC 2 lo w a xs)(h0:0<=L)(h1:L<=1048576) :
  Calls prog 14 #[.slice a xs.length cap,.int .i64 L] w (Rt (.int .i64 (szR (wS Dz xs) L)) w):=by
 have hlen:=hin.1;unfold maxLen at hlen;have HI:=iH hin;clear hin;have HW:Hid (wS Dz xs=xs.length+(xs.map Dz).sum):=rfl;generalize wS Dz xs=W at *;by_cases c1:L-xs.length<0
 .go_enter func14,ntmps14
  go_wp2
  go_ret;exact⟨Am (by have:=HW.out;unfold szR;rw[if_neg (by omega)]),Below.refl _ _⟩
 .go_enter func14,ntmps14
  go_wp2
  go_loopw [1,5] (λl i wr=>∃(k:Nat)(M:Int),k<=xs.length/\i=.int .i64 k/\l=.int .i64 M/\0<=M/\M<=1048576/\Hid (M=L-xs.length-((xs.take k).map Dz).sum)/\Below w.heap.size w wr) (λ_ i _=>xs.length-(intOf i).toNat)
  case atStart=>exact⟨0,_,zL,rfl,rfl,by omega,by omega,by show _=_;simp,Below.refl _ _⟩
  case round =>
   obtain⟨k,M,hk,rfl,rfl,hM0,hM1,hM,hbel⟩:=hrel;by_cases hlt:k<xs.length
   .obtain⟨x,hx⟩:=gXe hlt
    obtain⟨b,o,rfl,_,_,hc⟩:=(HI.out.below SvcC.holds hbel nL).at hx;obtain⟨q0,q1,z0⟩:=hc;simp only[Nat.add_zero]at q0 q1;have HX:Hid (((xs.take (k+1)).map Dz).sum=((xs.take k).map Dz).sum+Dz x):=Fi _ _ _ _ hx;have HY:Hid (((xs.take (k+1)).map Dz).sum<=(xs.map Dz).sum):=Df _ _ _;have CT:=nB x M wr z0 hM0 hM1;have HCT:=iH CT;clear hx CT;by_cases hr:(Dz x:Int)<=M
    .rw[Gx hr]at HCT
     generalize hV:Dz x=V at *;clear hV;go_wp2_with fail;refine HCT.out.mono ?_;rintro e w1⟨rfl,hb1⟩;clear HCT
     go_wp2
     go_roundw
     case rel =>
      refine⟨k+1,M-V,by omega,by go_num,rfl,by omega,by omega,?_,qTr hbel hb1⟩;have:=hM.out;have:=HX.out;show _=_
      omega
     case measure=>simp[intOf];omega
    .rw[Hb hr]at HCT
     generalize hV:Dz x=V at *;clear hV;go_wp2_with fail;refine HCT.out.mono ?_;rintro e w1⟨rfl,hb1⟩;clear HCT
     go_wp2
     go_ret;refine⟨Am ?_,qTr hbel hb1⟩;have:=HW.out;have:=HX.out;have:=HY.out;have:=hM.out;unfold szR;rw[if_neg (by omega)]
   .go_wp2
    go_ret;refine⟨Am ?_,hbel⟩;have hke:k=xs.length:=by omega
    subst hke;have h3:=hM.out;have h4:=HW.out;simp only[List.take_length]at h3;unfold szR;rw[if_pos (by omega)];omega
theorem gC:(prog.info? 88).map (λi=>(i.zero,i.size,i.bytes))=some (some (.agg #[.string ⟨#[]⟩,.int .i64 0]),2,24):=by kernel_rfl
theorem kF(xs:List Svc)(a:OA)(cap lo:Nat)(w:World)(hin:SliceC SvcC 2 lo w a xs)(hsm:wS Dz xs<=1048576) :
  Calls prog 21 #[.slice a xs.length cap] w λe w'=>∃g,e=.returned (.slice (some ⟨g,0,none⟩) xs.length xs.length)/\w.heap.size<=g/\SliceC SvcC 2 w.heap.size w' (some ⟨g,0,none⟩) xs/\Below w.heap.size w w':=by
 obtain⟨i0,hi,hz0,hz1,hz2⟩:=info_parts gC;have hlen:xs.length<=1048576:=lT Fd hsm;have HI:=iH hin;have HSM:=iH hsm;clear hin hsm;go_enter func21,ntmps21;go_wp2_with(at_make;refine wpList_make_full _ rfl _ _ 32 rfl w.heap.size 88 i0 _ 2 underlying32 hi hz0 hz1 .i64 .i64 _ _ xs.length rfl rfl rfl rfl (by rw[hz2];omega) (by unfold maxLen;omega) nL ?_;intro w1 hown hgrow);have hb1:Below w.heap.size w w1:=(Below.refl _ _).grown hgrow nL (λk h=>by cases h);have hsz1:=(hown.lt w.heap.size rfl).2;generalize hX:(madeCells _ (xs.length*2)).toList=xs0 at hown;clear hX hgrow hi hz0 hz1 hz2;go_loopw [4] (λi wr=>∃(k:Nat)(cs:List Value),k<=xs.length/\i=.int .i64 k/\w.heap.size<wr.heap.size/\wr.ownsRow w.heap.size 88 2 (.slice (some ⟨w.heap.size,0,none⟩) xs.length xs.length) xs.length cs/\RowC SvcC 2 (w.heap.size+1) wr cs xs k/\Below w.heap.size w wr) (λi _=>xs.length-(intOf i).toNat)
 case atStart=>exact⟨0,xs0,zL,rfl,hsz1,hown,λj n h=>by omega,hb1⟩
 case round =>
  clear hown hb1 hsz1;obtain⟨k,cs,hk,rfl,hszr,hown,hfil,hbel⟩:=hrel;by_cases hlt:k<xs.length
  .obtain⟨x,hx⟩:=gXe hlt
   obtain⟨b,o,rfl,_,_,hc⟩:=(HI.out.below SvcC.holds hbel nL).at hx;obtain⟨q0,q1,z0⟩:=hc;simp only[Nat.add_zero]at q0 q1;have HN:=iH hx;have hwx:Dz x<=1048576:=lT (Jo (List.mem_of_getElem? hx)) HSM;have HO:=iH hown;have HF:=iH hfil;have HS:=iH hszr;have CT:=nX x wr;have HCT:=iH CT;clear hx hown hfil CT hszr;go_wp2_with fail;refine HCT.out.mono ?_;rintro e w2⟨rfl,hb2⟩;clear HCT q0 q1;have ho2:=Ak HO hb2;have HB2:=iH (qTr hbel hb2);have HF2:Hid (RowC SvcC 2 (w.heap.size+1) w2 cs xs k):=HF.out.keep SvcC.holds (Keeps.of_below hb2 nL _);have hs2:Hid (w.heap.size<w2.heap.size):=lL HS hb2.size;have HR:Hid (SvcC (w.heap.size+1) w2 (λi=>([.string x.name,.int .i64 x.spare]:List Value)[i]?) x):=⟨rfl,rfl,z0⟩;have hxl:cs.length=xs.length*2:=ho2.1;have HT:Hid (w2.there w.heap.size (k*2) 2):=Ha ho2 (by omega);have HL:=iH hxl;have HO2:=iH ho2;clear hxl ho2 HO hb2 hwx;obtain⟨w3,hw3⟩:∃w',w'=w2.setCells w.heap.size (k*2) [.string x.name,.int .i64 x.spare]:=⟨_,rfl⟩;have HW3:=iH hw3;have HS3:Hid (w.heap.size<w3.heap.size):=by rw[hw3,Az];exact hs2
   have HO3:Hid (w3.ownsRow w.heap.size 88 2 (.slice (some ⟨w.heap.size,0,none⟩) xs.length xs.length) xs.length (Eh cs (k*2) [.string x.name,.int .i64 x.spare])):=by rw[hw3];exact Hf _ _ _ _ HO2
   have HB3:Hid (Below w.heap.size w w3):=by rw[hw3];exact Aj nL _ _ _ HB2
   have HR3:Hid (RowC SvcC 2 (w.heap.size+1) w3 (Eh cs (k*2) [.string x.name,.int .i64 x.spare]) xs (k+1)):=by
    rw[hw3];exact(HF2.out.step (vs:=[.string x.name,.int .i64 x.spare]) SvcC.holds HN rfl (by have:=HL.out;omega) HR).keep SvcC.holds (Keeps.setCells (by omega) _ _ _)
   clear hw3 HB2 HF2 hs2 HR HL HO2;go_wp2_with(refine An rfl 88 _ _ rfl w.heap.size (k*2) #[.string x.name,.int .i64 x.spare] (by first|rfl|(simp[go_sem];done)) rfl HT Ld (by simp[Value.oneCell']) w3 HW3 ?_);go_roundw
   case rel=>exact⟨k+1,_,by omega,by go_num,HS3,HO3,HR3,HB3⟩
   case measure=>simp[intOf];omega
  .have HO:=iH hown
   have HF:=iH hfil;clear hown hfil
   go_wp2
   go_ret;have hke:k=xs.length:=by omega
   subst hke;exact⟨_,rfl,Nat.le_refl _,Fg HO HF SvcC.holds HI.out.1 (by omega) nL,hbel⟩
theorem jJ(xs:List Svc)(a a':OA)(cap cap' lo lo':Nat)(w:World)(hg:SliceC SvcC 2 lo w a xs)(hh:SliceC SvcC 2 lo' w a' xs)(hsm:wS Dz xs<=1048576) :
  Calls prog 28 #[.slice a xs.length cap,.slice a' xs.length cap'] w (Rt (.bool true) w):=by
 have hlen:xs.length<=1048576:=lT Fd hsm;have HG:=iH hg;have HH:=iH hh;clear hg hh hsm;go_enter func28,ntmps28
 go_wp2
 go_loopw [5] (λi wr=>∃(k:Nat),k<=xs.length/\i=.int .i64 k/\Below w.heap.size w wr) (λi _=>xs.length-(intOf i).toNat)
 case atStart=>exact⟨0,zL,rfl,Below.refl _ _⟩
 case round =>
  obtain⟨k,hk,rfl,hbel⟩:=hrel;by_cases hlt:k<xs.length
  .obtain⟨x,hx⟩:=gXe hlt
   obtain⟨b,o,rfl,_,_,hc⟩:=(HG.out.below SvcC.holds hbel nL).at hx;obtain⟨b',o',rfl,_,_,hc'⟩:=(HH.out.below SvcC.holds hbel nL).at hx;obtain⟨q0,q1,_⟩:=hc;obtain⟨r0,r1,_⟩:=hc';simp only[Nat.add_zero]at q0 q1 r0 r1;have k0:=cell_regrown q0;have l0:=cell_regrown r0;have k1:=cell_regrown q1;have l1:=cell_regrown r1;have cE:∀d os,Calls prog 61 #[.agg #[.string x.name,.int .i64 x.spare],.agg #[.string x.name,.int .i64 x.spare]] (Sort.grow (redrawn wr d) os) λe w''=>e=.returned (.bool true)/\∃p:Regrown,w''=Sort.grow (redrawn wr p.d) p.os:=λd os=>Calls.regrown_of (pO x _)
   have i0:(0:Int)<=(k:Int):=by omega
   have i1:(k:Int)<(xs.length:Int):=by omega
   clear hx q0 q1 r0 r1;go_wp2_with fail;refine wp_region_quiet_below (by kernel_rfl) (by kernel_rfl) ?_
   repeat(quiet_step (first|exact cE _ _))
   refine wpQuiet_nil ?_;intro _ hw';obtain⟨⟨dq,osq⟩,hw''⟩:=hw';have hB:=hbel.trans ((below_regrown wr dq osq).mono hbel.size);simp only[]at hw'';rw[<-hw'']at hB;clear hw'' cE k0 l0 k1 l1
   go_wp2
   go_roundw
   case rel=>exact⟨k+1,by omega,by go_num,hB⟩
   case measure=>simp[intOf];omega
  .go_wp2
   go_ret;exact⟨rfl,hbel⟩
structure Brt where
 name:BA
 zone:BA
 marks:List BA
 room:Int
 hold:Int
 closed:Bool
abbrev bbL(x:Brt)(a1:OA)(c1:Nat):List Value:=[.string x.name,.string x.zone,.slice a1 x.marks.length c1,.int .i64 x.room,.int .i64 x.hold,.bool x.closed]
abbrev bbA(x:Brt)(a1:OA)(c1:Nat):Array Value:=#[.string x.name,.string x.zone,.slice a1 x.marks.length c1,.int .i64 x.room,.int .i64 x.hold,.bool x.closed]
abbrev BbL:List Value:=[.string ⟨#[]⟩,.string ⟨#[]⟩,.slice none 0 0,.int .i64 0,.int .i64 0,.bool false]
abbrev BbA:Array Value:=#[.string ⟨#[]⟩,.string ⟨#[]⟩,.slice none 0 0,.int .i64 0,.int .i64 0,.bool false]
def Cs(x:Brt):Nat:=x.name.size+x.zone.size+(wS ByteArray.size x.marks)
def BrtC:En Brt:=λlo w f x=>∃(a2:OA)(c2:Nat),f 0=some (.string x.name)/\f 1=some (.string x.zone)/\f 2=some (.slice a2 x.marks.length c2)/\f 3=some (.int .i64 x.room)/\f 4=some (.int .i64 x.hold)/\f 5=some (.bool x.closed)/\x.name.size<=maxLen/\x.zone.size<=maxLen/\SliceC StrC 1 lo w a2 x.marks
theorem BrtC.holds:Holds BrtC 6:=by
 rintro lo lo' w w' f g x h k hl⟨a2,c2,q0,q1,q2,q3,q4,q5,z0,z1,n2⟩;exact⟨a2,c2,(h 0 (by omega)).trans q0,(h 1 (by omega)).trans q1,(h 2 (by omega)).trans q2,(h 3 (by omega)).trans q3,(h 4 (by omega)).trans q4,(h 5 (by omega)).trans q5,z0,z1,n2.keep StrC.holds k hl⟩
theorem nR(x:Brt)(a2:OA)(c2:Nat)(lo:Nat)(L:Int)(w:World)(z0:x.name.size<=maxLen)(z1:x.zone.size<=maxLen)(n2:SliceC StrC 1 lo w a2 x.marks)(h0:0<=L)(h1:L<=1048576) :
  Calls prog 34 #[.agg (bbA x a2 c2),.int .i64 L] w (Rt (.int .i64 (szR (Cs x) L)) w):=by
 unfold maxLen at z0 z1;have N2:=iH n2;clear n2;have HW:Hid (Cs x=x.name.size+x.zone.size+(wS ByteArray.size x.marks)):=rfl;generalize Cs x=W at *;by_cases d0:L-(x.name.size:Nat)<0
 .go_enter func34,ntmps34
  go_wp2
  go_ret;exact⟨Am (by have:=HW.out;unfold szR;rw[if_neg (by omega)]),by go_grown⟩
 .skip
  by_cases d1:L-(x.name.size:Nat)-(x.zone.size:Nat)<0
  .go_enter func34,ntmps34
   go_wp2
   go_ret;exact⟨Am (by have:=HW.out;unfold szR;rw[if_neg (by omega)]),by go_grown⟩
  .skip
   go_enter func34,ntmps34;go_wp2_with fail;refine(jE x.marks a2 c2 lo _ _ (N2.out.below StrC.holds (B:=w.heap.size) (by go_grown) nL) (by omega) (by omega)).mono ?_;rintro e w1⟨rfl,hb1⟩;have hB1:Below w.heap.size w w1:=(show Below w.heap.size w _ by go_grown).trans (hb1.mono (by simp));have hs1:w.heap.size<w1.heap.size:=by have:=hb1.size;simp at this;omega
   clear hb1;by_cases d2:(((wS ByteArray.size x.marks):Nat):Int)<=L-(x.name.size:Nat)-(x.zone.size:Nat)
   .rw[Gx d2]
    go_wp2
    go_ret;exact⟨Am (by have:=HW.out;unfold szR;rw[if_pos (by omega)];omega),hB1⟩
   .rw[Hb d2]
    go_wp2
    go_ret;exact⟨Am (by have:=HW.out;unfold szR;rw[if_neg (by omega)]),hB1⟩
theorem Dl:(prog.info? 52).map (·.size)=some 6:=by kernel_rfl
theorem Nz:Qo 52 6:=⟨_,underlying52,rfl,Dl⟩
theorem oV(x:Brt)(a2:OA)(c2:Nat)(lo:Nat)(w:World)(n2:SliceC StrC 1 lo w a2 x.marks)(hsm:Cs x<=1048576) :
  Calls prog 50 #[.agg (bbA x a2 c2)] w λe w'=>∃g2,e=.returned (.agg (bbA x (some ⟨g2,0,none⟩) x.marks.length))/\SliceC StrC 1 w.heap.size w' (some ⟨g2,0,none⟩) x.marks/\Below w.heap.size w w':=by
 have N2:=iH n2;have M2:wS ByteArray.size x.marks<=1048576:=by unfold Cs at hsm;omega
 clear hsm n2;go_enter func50,ntmps50;go_wp2_with fail;refine(iN x.marks a2 c2 lo _ (N2.out.below StrC.holds (B:=w.heap.size) (by go_grown) nL) M2).mono ?_;rintro e w1⟨g2,rfl,hg2,hn2,hb1⟩;have hz1:w.heap.size+1+1<w1.heap.size:=by have:=hb1.size;simp at this;omega
 have ko1_0:w1.cell? ⟨w.heap.size+1+1,0,none⟩=some (.string x.name):=(hb1.cell (p:=⟨w.heap.size+1+1,0,none⟩) (by simp<;>omega)).trans (by simp[go_sem]);have fo1_0:w1.frozen? ⟨w.heap.size+1+1,0,none⟩=false:=(hb1.frozen (p:=⟨w.heap.size+1+1,0,none⟩) (by simp<;>omega)).trans (by simp[go_sem]);have kr1_0:w1.cell? ⟨w.heap.size+1,0,none⟩=some (.string ⟨#[]⟩):=(hb1.cell (p:=⟨w.heap.size+1,0,none⟩) (by simp<;>omega)).trans (by simp[go_sem]);have fr1_0:w1.frozen? ⟨w.heap.size+1,0,none⟩=false:=(hb1.frozen (p:=⟨w.heap.size+1,0,none⟩) (by simp<;>omega)).trans (by simp[go_sem]);have ko1_1:w1.cell? ⟨w.heap.size+1+1,1,none⟩=some (.string x.zone):=(hb1.cell (p:=⟨w.heap.size+1+1,1,none⟩) (by simp<;>omega)).trans (by simp[go_sem]);have fo1_1:w1.frozen? ⟨w.heap.size+1+1,1,none⟩=false:=(hb1.frozen (p:=⟨w.heap.size+1+1,1,none⟩) (by simp<;>omega)).trans (by simp[go_sem]);have kr1_1:w1.cell? ⟨w.heap.size+1,1,none⟩=some (.string ⟨#[]⟩):=(hb1.cell (p:=⟨w.heap.size+1,1,none⟩) (by simp<;>omega)).trans (by simp[go_sem]);have fr1_1:w1.frozen? ⟨w.heap.size+1,1,none⟩=false:=(hb1.frozen (p:=⟨w.heap.size+1,1,none⟩) (by simp<;>omega)).trans (by simp[go_sem]);have ko1_2:w1.cell? ⟨w.heap.size+1+1,2,none⟩=some (.slice none 0 0):=(hb1.cell (p:=⟨w.heap.size+1+1,2,none⟩) (by simp<;>omega)).trans (by simp[go_sem]);have fo1_2:w1.frozen? ⟨w.heap.size+1+1,2,none⟩=false:=(hb1.frozen (p:=⟨w.heap.size+1+1,2,none⟩) (by simp<;>omega)).trans (by simp[go_sem]);have kr1_2:w1.cell? ⟨w.heap.size+1,2,none⟩=some (.slice none 0 0):=(hb1.cell (p:=⟨w.heap.size+1,2,none⟩) (by simp<;>omega)).trans (by simp[go_sem]);have fr1_2:w1.frozen? ⟨w.heap.size+1,2,none⟩=false:=(hb1.frozen (p:=⟨w.heap.size+1,2,none⟩) (by simp<;>omega)).trans (by simp[go_sem]);have ka1_3:w1.cell? ⟨w.heap.size,3,none⟩=some (.int .i64 x.room):=(hb1.cell (p:=⟨w.heap.size,3,none⟩) (by simp<;>omega)).trans (by simp[go_sem]);have ko1_3:w1.cell? ⟨w.heap.size+1+1,3,none⟩=some (.int .i64 0):=(hb1.cell (p:=⟨w.heap.size+1+1,3,none⟩) (by simp<;>omega)).trans (by simp[go_sem]);have fo1_3:w1.frozen? ⟨w.heap.size+1+1,3,none⟩=false:=(hb1.frozen (p:=⟨w.heap.size+1+1,3,none⟩) (by simp<;>omega)).trans (by simp[go_sem]);have kr1_3:w1.cell? ⟨w.heap.size+1,3,none⟩=some (.int .i64 0):=(hb1.cell (p:=⟨w.heap.size+1,3,none⟩) (by simp<;>omega)).trans (by simp[go_sem]);have fr1_3:w1.frozen? ⟨w.heap.size+1,3,none⟩=false:=(hb1.frozen (p:=⟨w.heap.size+1,3,none⟩) (by simp<;>omega)).trans (by simp[go_sem]);have ka1_4:w1.cell? ⟨w.heap.size,4,none⟩=some (.int .i64 x.hold):=(hb1.cell (p:=⟨w.heap.size,4,none⟩) (by simp<;>omega)).trans (by simp[go_sem]);have ko1_4:w1.cell? ⟨w.heap.size+1+1,4,none⟩=some (.int .i64 0):=(hb1.cell (p:=⟨w.heap.size+1+1,4,none⟩) (by simp<;>omega)).trans (by simp[go_sem])
 have fo1_4:w1.frozen? ⟨w.heap.size+1+1,4,none⟩=false:=(hb1.frozen (p:=⟨w.heap.size+1+1,4,none⟩) (by simp<;>omega)).trans (by simp[go_sem]);have kr1_4:w1.cell? ⟨w.heap.size+1,4,none⟩=some (.int .i64 0):=(hb1.cell (p:=⟨w.heap.size+1,4,none⟩) (by simp<;>omega)).trans (by simp[go_sem]);have fr1_4:w1.frozen? ⟨w.heap.size+1,4,none⟩=false:=(hb1.frozen (p:=⟨w.heap.size+1,4,none⟩) (by simp<;>omega)).trans (by simp[go_sem]);have ka1_5:w1.cell? ⟨w.heap.size,5,none⟩=some (.bool x.closed):=(hb1.cell (p:=⟨w.heap.size,5,none⟩) (by simp<;>omega)).trans (by simp[go_sem]);have ko1_5:w1.cell? ⟨w.heap.size+1+1,5,none⟩=some (.bool false):=(hb1.cell (p:=⟨w.heap.size+1+1,5,none⟩) (by simp<;>omega)).trans (by simp[go_sem]);have fo1_5:w1.frozen? ⟨w.heap.size+1+1,5,none⟩=false:=(hb1.frozen (p:=⟨w.heap.size+1+1,5,none⟩) (by simp<;>omega)).trans (by simp[go_sem]);have kr1_5:w1.cell? ⟨w.heap.size+1,5,none⟩=some (.bool false):=(hb1.cell (p:=⟨w.heap.size+1,5,none⟩) (by simp<;>omega)).trans (by simp[go_sem]);have fr1_5:w1.frozen? ⟨w.heap.size+1,5,none⟩=false:=(hb1.frozen (p:=⟨w.heap.size+1,5,none⟩) (by simp<;>omega)).trans (by simp[go_sem]);have hg2':w.heap.size+1+1<g2:=by simp at hg2;omega
 have hB1:Below w.heap.size w w1:=(show Below w.heap.size w _ by go_grown).trans (hb1.mono (by simp<;>omega));have HN2:Hid (SliceC StrC 1 (w.heap.size+3) w1 (some ⟨g2,0,none⟩) x.marks):=hn2.keep StrC.holds (Keeps.refl _ _) (by simp<;>omega);clear hn2 hb1 hg2;have HPR:Hid (w1.rangeAt (w.heap.size+1+1) 0 [.string x.name,.string x.zone]):=Aa ko1_0 (Aa ko1_1 (Ao _ _ _));have HTO:Hid (w1.there (w.heap.size+1+1) 2 4):=Ag ko1_2 fo1_2 (Ag ko1_3 fo1_3 (Ag ko1_4 fo1_4 (Ag ko1_5 fo1_5 (Ez _ _ _))));have HTR:Hid (w1.there (w.heap.size+1) 0 6):=Ag kr1_0 fr1_0 (Ag kr1_1 fr1_1 (Ag kr1_2 fr1_2 (Ag kr1_3 fr1_3 (Ag kr1_4 fr1_4 (Ag kr1_5 fr1_5 (Ez _ _ _))))));clear kr1_0 fr1_0 kr1_1 fr1_1 kr1_2 fr1_2 kr1_3 fr1_3 kr1_4 fr1_4 kr1_5 fr1_5 ko1_0 fo1_0 ko1_1 fo1_1;go_upto_region 8 with fail;have HRG:Hid (World.rangeAt ((((w1.setCell ⟨w.heap.size+1+1,2,none⟩ (.slice (some ⟨g2,0,none⟩) x.marks.length x.marks.length)).setCell ⟨w.heap.size+1+1,3,none⟩ (.int .i64 x.room)).setCell ⟨w.heap.size+1+1,4,none⟩ (.int .i64 x.hold)).setCell ⟨w.heap.size+1+1,5,none⟩ (.bool x.closed)) (w.heap.size+1+1) 0 (bbL x (some ⟨g2,0,none⟩) x.marks.length)):=Kp (vs:=[.slice (some ⟨g2,0,none⟩) x.marks.length x.marks.length,.int .i64 x.room,.int .i64 x.hold,.bool x.closed]) HPR rfl HTO;have HTG:Hid (World.there ((((w1.setCell ⟨w.heap.size+1+1,2,none⟩ (.slice (some ⟨g2,0,none⟩) x.marks.length x.marks.length)).setCell ⟨w.heap.size+1+1,3,none⟩ (.int .i64 x.room)).setCell ⟨w.heap.size+1+1,4,none⟩ (.int .i64 x.hold)).setCell ⟨w.heap.size+1+1,5,none⟩ (.bool x.closed)) (w.heap.size+1) 0 6):=World.there_setCells HTR (w.heap.size+1+1) 2 [.slice (some ⟨g2,0,none⟩) x.marks.length x.marks.length,.int .i64 x.room,.int .i64 x.hold,.bool x.closed];have HBG:Hid (Below w.heap.size w ((((w1.setCell ⟨w.heap.size+1+1,2,none⟩ (.slice (some ⟨g2,0,none⟩) x.marks.length x.marks.length)).setCell ⟨w.heap.size+1+1,3,none⟩ (.int .i64 x.room)).setCell ⟨w.heap.size+1+1,4,none⟩ (.int .i64 x.hold)).setCell ⟨w.heap.size+1+1,5,none⟩ (.bool x.closed))):=Aj (b:=w.heap.size+1+1) (by omega) [.slice (some ⟨g2,0,none⟩) x.marks.length x.marks.length,.int .i64 x.room,.int .i64 x.hold,.bool x.closed] 2 _ hB1;have HG2:Hid (SliceC StrC 1 (w.heap.size+3) ((((w1.setCell ⟨w.heap.size+1+1,2,none⟩ (.slice (some ⟨g2,0,none⟩) x.marks.length x.marks.length)).setCell ⟨w.heap.size+1+1,3,none⟩ (.int .i64 x.room)).setCell ⟨w.heap.size+1+1,4,none⟩ (.int .i64 x.hold)).setCell ⟨w.heap.size+1+1,5,none⟩ (.bool x.closed)) (some ⟨g2,0,none⟩) x.marks):=HN2.out.keep StrC.holds (Keeps.setCells (b:=w.heap.size+1+1) (by omega) [.slice (some ⟨g2,0,none⟩) x.marks.length x.marks.length,.int .i64 x.room,.int .i64 x.hold,.bool x.closed] 2 _) nL;clear ko1_2 fo1_2 ko1_3 fo1_3 ko1_4 fo1_4 ko1_5 fo1_5 ka1_3 ka1_4 ka1_5 HPR HTO HTR hz1 hB1 HN2 hg2';generalize((((w1.setCell ⟨w.heap.size+1+1,2,none⟩ (.slice (some ⟨g2,0,none⟩) x.marks.length x.marks.length)).setCell ⟨w.heap.size+1+1,3,none⟩ (.int .i64 x.room)).setCell ⟨w.heap.size+1+1,4,none⟩ (.int .i64 x.hold)).setCell ⟨w.heap.size+1+1,5,none⟩ (.bool x.closed))=w9 at *
 obtain⟨w10,hw10⟩:∃w',w'=w9.setCells (w.heap.size+1) 0 (bbL x (some ⟨g2,0,none⟩) x.marks.length):=⟨_,rfl⟩;have HR10:Hid (w10.rangeAt (w.heap.size+1) 0 (bbL x (some ⟨g2,0,none⟩) x.marks.length)):=by rw[hw10];exact World.rangeAt_setCells_same _ _ _ _ HTG
 have HB10:Hid (Below w.heap.size w w10):=by rw[hw10];exact Aj (by omega) _ _ _ HBG
 have HS2:Hid (SliceC StrC 1 w.heap.size w10 (some ⟨g2,0,none⟩) x.marks):=by rw[hw10];exact HG2.out.keep StrC.holds (Keeps.setCells (by omega) _ _ _) (by omega)
 have HW10:=iH hw10;clear hw10 HBG HG2;go_wp2_with(first|(refine qLr Nz HRG ?_)|(refine An rfl 52 _ _ rfl (w.heap.size+1) 0 (bbA x (some ⟨g2,0,none⟩) x.marks.length) rfl rfl HTG Dl (by simp[Value.oneCell']) w10 HW10 ?_));exact bodyPost_ret (Bi rfl _ _ (w.heap.size+1) (bbL x (some ⟨g2,0,none⟩) x.marks.length) _ rfl HR10 underlying52 rfl Dl) rfl ⟨g2,rfl,HS2,HB10⟩
theorem nU(x:Brt)(a2:OA)(c2:Nat)(a2p:OA)(c2p:Nat)(lo lo':Nat)(w:World)(n2:SliceC StrC 1 lo w a2 x.marks)(p2:SliceC StrC 1 lo' w a2p x.marks)(hsm:Cs x<=1048576) :
  Calls prog 60 #[.agg (bbA x a2 c2),.agg (bbA x a2p c2p)] w (Rt (.bool true) w):=by
 have N2:=iH n2;have P2:=iH p2;have M2:wS ByteArray.size x.marks<=1048576:=by unfold Cs at hsm;omega
 clear hsm n2 p2;go_enter func60,ntmps60;go_wp2_with fail;refine(Ky x.marks a2 a2p c2 c2p lo lo' _ (N2.out.below StrC.holds (B:=w.heap.size) (by go_grown) nL) (P2.out.below StrC.holds (B:=w.heap.size) (by go_grown) nL) M2).mono ?_;rintro e w1⟨rfl,hb1⟩;have hB1:Below w.heap.size w w1:=(show Below w.heap.size w _ by go_grown).trans (hb1.mono (by simp;omega));have k1_3:w1.cell? ⟨w.heap.size,3,none⟩=some (.int .i64 x.room):=(hb1.cell (p:=⟨w.heap.size,3,none⟩) (by simp;omega)).trans (by simp);have l1_3:w1.cell? ⟨w.heap.size+1,3,none⟩=some (.int .i64 x.room):=(hb1.cell (p:=⟨w.heap.size+1,3,none⟩) (by simp)).trans (by simp);have k1_4:w1.cell? ⟨w.heap.size,4,none⟩=some (.int .i64 x.hold):=(hb1.cell (p:=⟨w.heap.size,4,none⟩) (by simp;omega)).trans (by simp);have l1_4:w1.cell? ⟨w.heap.size+1,4,none⟩=some (.int .i64 x.hold):=(hb1.cell (p:=⟨w.heap.size+1,4,none⟩) (by simp)).trans (by simp);have k1_5:w1.cell? ⟨w.heap.size,5,none⟩=some (.bool x.closed):=(hb1.cell (p:=⟨w.heap.size,5,none⟩) (by simp;omega)).trans (by simp);have l1_5:w1.cell? ⟨w.heap.size+1,5,none⟩=some (.bool x.closed):=(hb1.cell (p:=⟨w.heap.size+1,5,none⟩) (by simp)).trans (by simp);have hs1:w.heap.size+1<w1.heap.size:=by have:=hb1.size;simp at this;omega
 clear hb1
 go_wp2
 go_ret;exact⟨rfl,hB1⟩
theorem gZ(xs:List Brt)(a:OA)(cap lo:Nat)(L:Int)(w:World)(hin:SliceC BrtC 6 lo w a xs)(h0:0<=L)(h1:L<=1048576) :
  Calls prog 13 #[.slice a xs.length cap,.int .i64 L] w (Rt (.int .i64 (szR (wS Cs xs) L)) w):=by
 have hlen:=hin.1;unfold maxLen at hlen;have HI:=iH hin;clear hin;have HW:Hid (wS Cs xs=xs.length+(xs.map Cs).sum):=rfl;generalize wS Cs xs=W at *;by_cases c1:L-xs.length<0
 .go_enter func13,ntmps13
  go_wp2
  go_ret;exact⟨Am (by have:=HW.out;unfold szR;rw[if_neg (by omega)]),Below.refl _ _⟩
 .go_enter func13,ntmps13
  go_wp2
  go_loopw [1,5] (λl i wr=>∃(k:Nat)(M:Int),k<=xs.length/\i=.int .i64 k/\l=.int .i64 M/\0<=M/\M<=1048576/\Hid (M=L-xs.length-((xs.take k).map Cs).sum)/\Below w.heap.size w wr) (λ_ i _=>xs.length-(intOf i).toNat)
  case atStart=>exact⟨0,_,zL,rfl,rfl,by omega,by omega,by show _=_;simp,Below.refl _ _⟩
  case round =>
   obtain⟨k,M,hk,rfl,rfl,hM0,hM1,hM,hbel⟩:=hrel;by_cases hlt:k<xs.length
   .obtain⟨x,hx⟩:=gXe hlt
    obtain⟨b,o,rfl,_,_,hc⟩:=(HI.out.below BrtC.holds hbel nL).at hx;obtain⟨a2,c2,q0,q1,q2,q3,q4,q5,z0,z1,n2⟩:=hc;simp only[Nat.add_zero]at q0 q1 q2 q3 q4 q5;have HX:Hid (((xs.take (k+1)).map Cs).sum=((xs.take k).map Cs).sum+Cs x):=Fi _ _ _ _ hx;have HY:Hid (((xs.take (k+1)).map Cs).sum<=(xs.map Cs).sum):=Df _ _ _;have CT:=nR x a2 c2 lo M wr z0 z1 n2 hM0 hM1;have HCT:=iH CT;clear hx CT;by_cases hr:(Cs x:Int)<=M
    .rw[Gx hr]at HCT
     generalize hV:Cs x=V at *;clear hV;go_wp2_with fail;refine HCT.out.mono ?_;rintro e w1⟨rfl,hb1⟩;clear HCT
     go_wp2
     go_roundw
     case rel =>
      refine⟨k+1,M-V,by omega,by go_num,rfl,by omega,by omega,?_,qTr hbel hb1⟩;have:=hM.out;have:=HX.out;show _=_
      omega
     case measure=>simp[intOf];omega
    .rw[Hb hr]at HCT
     generalize hV:Cs x=V at *;clear hV;go_wp2_with fail;refine HCT.out.mono ?_;rintro e w1⟨rfl,hb1⟩;clear HCT
     go_wp2
     go_ret;refine⟨Am ?_,qTr hbel hb1⟩;have:=HW.out;have:=HX.out;have:=HY.out;have:=hM.out;unfold szR;rw[if_neg (by omega)]
   .go_wp2
    go_ret;refine⟨Am ?_,hbel⟩;have hke:k=xs.length:=by omega
    subst hke;have h3:=hM.out;have h4:=HW.out;simp only[List.take_length]at h3;unfold szR;rw[if_pos (by omega)];omega
theorem cO:(prog.info? 52).map (λi=>(i.zero,i.size,i.bytes))=some (some (.agg BbA),6,80):=by kernel_rfl
theorem iV(xs:List Brt)(a:OA)(cap lo:Nat)(w:World)(hin:SliceC BrtC 6 lo w a xs)(hsm:wS Cs xs<=1048576) :
  Calls prog 20 #[.slice a xs.length cap] w λe w'=>∃g,e=.returned (.slice (some ⟨g,0,none⟩) xs.length xs.length)/\w.heap.size<=g/\SliceC BrtC 6 w.heap.size w' (some ⟨g,0,none⟩) xs/\Below w.heap.size w w':=by
 obtain⟨i0,hi,hz0,hz1,hz2⟩:=info_parts cO;have hlen:xs.length<=1048576:=lT Fd hsm;have HI:=iH hin;have HSM:=iH hsm;clear hin hsm;go_enter func20,ntmps20;go_wp2_with(at_make;refine wpList_make_full _ rfl _ _ 31 rfl w.heap.size 52 i0 _ 6 underlying31 hi hz0 hz1 .i64 .i64 _ _ xs.length rfl rfl rfl rfl (by rw[hz2];omega) (by unfold maxLen;omega) nL ?_;intro w1 hown hgrow);have hb1:Below w.heap.size w w1:=(Below.refl _ _).grown hgrow nL (λk h=>by cases h);have hsz1:=(hown.lt w.heap.size rfl).2;generalize hX:(madeCells _ (xs.length*6)).toList=xs0 at hown;clear hX hgrow hi hz0 hz1 hz2;go_loopw [4] (λi wr=>∃(k:Nat)(cs:List Value),k<=xs.length/\i=.int .i64 k/\w.heap.size<wr.heap.size/\wr.ownsRow w.heap.size 52 6 (.slice (some ⟨w.heap.size,0,none⟩) xs.length xs.length) xs.length cs/\RowC BrtC 6 (w.heap.size+1) wr cs xs k/\Below w.heap.size w wr) (λi _=>xs.length-(intOf i).toNat)
 case atStart=>exact⟨0,xs0,zL,rfl,hsz1,hown,λj n h=>by omega,hb1⟩
 case round =>
  clear hown hb1 hsz1;obtain⟨k,cs,hk,rfl,hszr,hown,hfil,hbel⟩:=hrel;by_cases hlt:k<xs.length
  .obtain⟨x,hx⟩:=gXe hlt
   obtain⟨b,o,rfl,_,_,hc⟩:=(HI.out.below BrtC.holds hbel nL).at hx;obtain⟨a2,c2,q0,q1,q2,q3,q4,q5,z0,z1,n2⟩:=hc;simp only[Nat.add_zero]at q0 q1 q2 q3 q4 q5;have HN:=iH hx;have hwx:Cs x<=1048576:=lT (Jo (List.mem_of_getElem? hx)) HSM;have HO:=iH hown;have HF:=iH hfil;have HS:=iH hszr;have CT:=oV x a2 c2 lo wr n2 hwx;have HCT:=iH CT;clear hx hown hfil CT hszr;go_wp2_with fail;refine HCT.out.mono ?_;rintro e w2⟨g2,rfl,m2,hb2⟩;clear HCT q0 q1 q2 q3 q4 q5 n2;have ho2:=Ak HO hb2;have HB2:=iH (qTr hbel hb2);have HF2:Hid (RowC BrtC 6 (w.heap.size+1) w2 cs xs k):=HF.out.keep BrtC.holds (Keeps.of_below hb2 nL _);have hs2:Hid (w.heap.size<w2.heap.size):=lL HS hb2.size;have HR:Hid (BrtC (w.heap.size+1) w2 (λi=>((bbL x (some ⟨g2,0,none⟩) x.marks.length):List Value)[i]?) x):=⟨_,_,rfl,rfl,rfl,rfl,rfl,rfl,z0,z1,m2.keep StrC.holds (Keeps.refl _ _) (by have:=hbel.size;have:=HS.out;omega)⟩;have hxl:cs.length=xs.length*6:=ho2.1;have HT:Hid (w2.there w.heap.size (k*6) 6):=Ha ho2 (by omega);have HL:=iH hxl;have HO2:=iH ho2;clear hxl ho2 HO hb2 hwx m2;obtain⟨w3,hw3⟩:∃w',w'=w2.setCells w.heap.size (k*6) (bbL x (some ⟨g2,0,none⟩) x.marks.length):=⟨_,rfl⟩;have HW3:=iH hw3;have HS3:Hid (w.heap.size<w3.heap.size):=by rw[hw3,Az];exact hs2
   have HO3:Hid (w3.ownsRow w.heap.size 52 6 (.slice (some ⟨w.heap.size,0,none⟩) xs.length xs.length) xs.length (Eh cs (k*6) (bbL x (some ⟨g2,0,none⟩) x.marks.length))):=by rw[hw3];exact Hf _ _ _ _ HO2
   have HB3:Hid (Below w.heap.size w w3):=by rw[hw3];exact Aj nL _ _ _ HB2
   have HR3:Hid (RowC BrtC 6 (w.heap.size+1) w3 (Eh cs (k*6) (bbL x (some ⟨g2,0,none⟩) x.marks.length)) xs (k+1)):=by
    rw[hw3];exact(HF2.out.step (vs:=(bbL x (some ⟨g2,0,none⟩) x.marks.length)) BrtC.holds HN rfl (by have:=HL.out;omega) HR).keep BrtC.holds (Keeps.setCells (by omega) _ _ _)
   clear hw3 HB2 HF2 hs2 HR HL HO2;go_wp2_with(refine An rfl 52 _ _ rfl w.heap.size (k*6) (bbA x (some ⟨g2,0,none⟩) x.marks.length) (by first|rfl|(simp[go_sem];done)) rfl HT Dl (by simp[Value.oneCell']) w3 HW3 ?_);go_roundw
   case rel=>exact⟨k+1,_,by omega,by go_num,HS3,HO3,HR3,HB3⟩
   case measure=>simp[intOf];omega
  .have HO:=iH hown
   have HF:=iH hfil;clear hown hfil
   go_wp2
   go_ret;have hke:k=xs.length:=by omega
   subst hke;exact⟨_,rfl,Nat.le_refl _,Fg HO HF BrtC.holds HI.out.1 (by omega) nL,hbel⟩
theorem jV(xs:List Brt)(a a':OA)(cap cap' lo lo':Nat)(w:World)(hg:SliceC BrtC 6 lo w a xs)(hh:SliceC BrtC 6 lo' w a' xs)(hsm:wS Cs xs<=1048576) :
  Calls prog 27 #[.slice a xs.length cap,.slice a' xs.length cap'] w (Rt (.bool true) w):=by
 have hlen:xs.length<=1048576:=lT Fd hsm;have HG:=iH hg;have HH:=iH hh;have HSM:=iH hsm;clear hg hh hsm;go_enter func27,ntmps27
 go_wp2
 go_loopw [5] (λi wr=>∃(k:Nat),k<=xs.length/\i=.int .i64 k/\Below w.heap.size w wr) (λi _=>xs.length-(intOf i).toNat)
 case atStart=>exact⟨0,zL,rfl,Below.refl _ _⟩
 case round =>
  obtain⟨k,hk,rfl,hbel⟩:=hrel;by_cases hlt:k<xs.length
  .obtain⟨x,hx⟩:=gXe hlt
   obtain⟨b,o,rfl,_,_,hc⟩:=(HG.out.below BrtC.holds hbel nL).at hx;obtain⟨b',o',rfl,_,_,hc'⟩:=(HH.out.below BrtC.holds hbel nL).at hx;obtain⟨a2,c2,q0,q1,q2,q3,q4,q5,_,_,n2⟩:=hc;obtain⟨a2p,c2p,r0,r1,r2,r3,r4,r5,_,_,p2⟩:=hc';simp only[Nat.add_zero]at q0 q1 q2 q3 q4 q5 r0 r1 r2 r3 r4 r5;have hwx:Cs x<=1048576:=lT (Jo (List.mem_of_getElem? hx)) HSM;have k0:=cell_regrown q0;have l0:=cell_regrown r0;have k1:=cell_regrown q1;have l1:=cell_regrown r1;have k2:=cell_regrown q2;have l2:=cell_regrown r2;have k3:=cell_regrown q3;have l3:=cell_regrown r3;have k4:=cell_regrown q4;have l4:=cell_regrown r4;have k5:=cell_regrown q5;have l5:=cell_regrown r5;have cE:∀d os,Calls prog 60 #[.agg (bbA x a2 c2),.agg (bbA x a2p c2p)] (Sort.grow (redrawn wr d) os) λe w''=>e=.returned (.bool true)/\∃p:Regrown,w''=Sort.grow (redrawn wr p.d) p.os:=λd os=>Calls.regrown_of (nU x a2 c2 a2p c2p lo lo' _ (n2.below StrC.holds (below_regrown wr d os) nL) (p2.below StrC.holds (below_regrown wr d os) nL) hwx)
   have i0:(0:Int)<=(k:Int):=by omega
   have i1:(k:Int)<(xs.length:Int):=by omega
   clear hx q0 q1 q2 q3 q4 q5 r0 r1 r2 r3 r4 r5 n2 p2 hwx;go_wp2_with fail;refine wp_region_quiet_below (by kernel_rfl) (by kernel_rfl) ?_
   repeat(quiet_step (first|exact cE _ _))
   refine wpQuiet_nil ?_;intro _ hw';obtain⟨⟨dq,osq⟩,hw''⟩:=hw';have hB:=hbel.trans ((below_regrown wr dq osq).mono hbel.size);simp only[]at hw'';rw[<-hw'']at hB;clear hw'' cE k0 l0 k1 l1 k2 l2 k3 l3 k4 l4 k5 l5
   go_wp2
   go_roundw
   case rel=>exact⟨k+1,by omega,by go_num,hB⟩
   case measure=>simp[intOf];omega
  .go_wp2
   go_ret;exact⟨rfl,hbel⟩
end Go.Proofs.YtpidfnfilnkhkaaGreat
