import Derived.Test.YthboopnmbglkjaaGreatJ8
import Derived.Lib.Strings
import Derived.Lib.Slices
import Derived.Lib.Walk
import Derived.Lib.Bytealg
import Derived.Lib.IndexLaws
set_option maxHeartbeats 2000000
namespace Go.Proofs.YthboopnmbglkjaaGreat
open Tryz
set_option maxRecDepth 100000
open Go.RowKit Tryz
def inR(n a b:Int):Bool:=decide (a<=n)&&decide (n<=b)
theorem Jv(n a b:Int)(w:World) :
  Calls prog 131 #[X n,X a,X b] w (Rt (.bool (inR n a b)) w):=by
 by_cases h1:a<=n
 .by_cases h2:n<=b
  .have HC:Hid (inR n a b=true):=by show _=_;simp[inR,h1,h2]
   go_enter func131,ntmps131
   go_wp2
   go_ret;exact⟨Ab HC.out.symm,by go_grown⟩
  have HC:Hid (inR n a b=false):=by show _=_;simp[inR,h2]
  go_enter func131,ntmps131
  go_wp2
  go_ret;exact⟨Ab HC.out.symm,by go_grown⟩
 have HC:Hid (inR n a b=false):=by show _=_;simp[inR,h1]
 go_enter func131,ntmps131
 go_wp2
 go_ret;exact⟨Ab HC.out.symm,by go_grown⟩
theorem Lm(n:Int)(w:World) :
  Calls prog 129 #[X n] w (Rt (.bool (inR n 0 1000)) w):=by
 go_enter func129,ntmps129;go_wp2_with fail;refine(Jv _ _ _ _).mono ?_;rintro e w1⟨rfl,hb⟩
 go_wp2
 go_ret;exact⟨rfl,hb⟩
def Cb(s:BA):Bool:=decide (s.size=0)||P.nameOk s
theorem Kg(s:BA)(w:World)(hs:s.size<=maxLen) :
  Calls prog 159 #[Y s] w (Rt (.bool (Cb s)) w):=by
 by_cases h:s=⟨#[]⟩
 .have HC:Hid (Cb s=true):=by show _=_;subst h;rfl
  have hte:s.toList=[]:=by subst h;simp
  clear h;go_enter func159,ntmps159
  go_wp2
  go_ret;exact⟨Ab HC.out.symm,by go_grown⟩
 have HC:Hid (Cb s=P.nameOk s):=by
  show _=_
  have:s.size≠0:=λe=>h (ByteArray.ext (Array.eq_empty_of_size_eq_zero e))
  simp[Cb,this]
 have hte:¬s.toList=[]:=by
  rw[ByteArray.toList_eq];exact λe=>h (by cases s with|mk x=>cases x;simp at e;simp[e])
 have HZ:=iH hs;clear h hs;go_enter func159,ntmps159;go_wp2_with fail;refine(Ci _ _ HZ).mono ?_;rintro e w1⟨rfl,rfl⟩
 go_wp2
 go_ret;have hem:s.toList.isEmpty=false:=by simpa using hte
 exact⟨Ab (by rw[hem,Bool.false_or];exact HC.out.symm),by go_grown⟩
def Gf(l:Lik):Bool:=decide (Ap l.select=0)&&inR l.weight (-9) 9
def Dv(xs:List Lik):Bool:=decide (xs.length<=5)&&xs.all Gf
theorem eJ(xs:List Lik)(a:OA)(cap lo:Nat)(w:World)(hin:sK lo w a xs) :
  Calls prog 158 #[.slice a xs.length cap] w (Rt (.bool (Dv xs)) w):=by
 have hlen:=hin.1;unfold maxLen at hlen;have HI:=iH hin;clear hin;by_cases h5:xs.length<=5
 .go_enter func158,ntmps158
  go_wp2
  go_loopw [10] (λi wr=>∃k:Nat,k<=xs.length/\i=X k/\Hid (∀j x,j<k->xs[j]?=some x->Gf x=true)/\bW w wr) (λi _=>xs.length-(intOf i).toNat)
  case atStart=>exact⟨0,zL,rfl,λj x h=>absurd h (Nat.not_lt_zero _),by go_grown⟩
  obtain⟨k,hk,rfl,ho,hbel⟩:=hrel;by_cases hlt:k<xs.length
  .obtain⟨x,hx⟩:=gXe hlt
   obtain⟨b,o,rfl,_,_,hc⟩:=(HI.out.below LikC.holds hbel nL).at hx;obtain⟨q0,q1,z0⟩:=hc;simp only[Nat.add_zero]at q0 q1;have HX:=iH hx;have HZ:=iH z0;have HB:=iH hbel;have HSZ:Hid (w.heap.size<=wr.heap.size):=hbel.size;clear hx z0 hbel;go_upto_region 6 with fail;have e0:(wr.alloc (Obj.cells #[Y x.select,X x.weight] 129)).cell? (E wr.heap.size 0)=some (Y x.select):=by simp
   have e1:(wr.alloc (Obj.cells #[Y x.select,X x.weight] 129)).cell? (E wr.heap.size 1)=some (X x.weight):=by simp
   have HB4:Hid (bW w (wr.alloc (Obj.cells #[Y x.select,X x.weight] 129))):=HB.out.alloc HSZ _;have hs4:wr.heap.size<(wr.alloc (Obj.cells #[Y x.select,X x.weight] 129)).heap.size:=by simp
   clear HB HSZ q0 q1;generalize wr.alloc (Obj.cells #[Y x.select,X x.weight] 129)=w4 at *;cases hr:decide (Ap x.select=0)
   .have HC:Hid (Dv xs=false):=by
     show _=_
     have hm:=List.mem_of_getElem? HX;have:Gf x=false:=by simp[Gf,hr]
     have:xs.all Gf=false:=List.all_eq_false.mpr ⟨x,hm,by simp[this]⟩;simp[Dv,this]
    have HR:=iH hr;clear hr;go_wp2_with fail;refine(Ob _ _ HZ).mono ?_;rintro e w5⟨rfl,hb5⟩;rw[HR.out];have HB5:=qTH HB4 hb5;clear hb5
    go_wp2
    go_ret;exact⟨Ab HC.out.symm,HB5⟩
   have HR:=iH hr;go_wp2_with fail;refine(Ob _ _ HZ).mono ?_;rintro e w5⟨rfl,hb5⟩;rw[HR.out];have e5:w5.cell? (E wr.heap.size 1)=some (X x.weight):=by rw[hb5.cell (p:=(E wr.heap.size 1)) hs4];exact e1
   have HB5:=qTH HB4 hb5;clear hb5 e0 e1 hs4 HB4;go_wp2_with fail;refine(Jv _ _ _ _).mono ?_;rintro e w6⟨rfl,hb6⟩;have HB6:=qTH HB5 hb6;clear hb6 HB5 e5;cases hi:inR x.weight (-9) 9
   .have HC:Hid (Dv xs=false):=by
     show _=_
     have hm:=List.mem_of_getElem? HX;have:Gf x=false:=by simp[Gf,hi]
     have:xs.all Gf=false:=List.all_eq_false.mpr ⟨x,hm,by simp[this]⟩;simp[Dv,this]
    clear hi hr
    go_wp2
    go_ret;exact⟨Ab HC.out.symm,HB6⟩
   have HO:Hid (∀j y,j<k+1->xs[j]?=some y->Gf y=true):=by
    intro j y hj hy;by_cases e:j=k
    .subst e
     rw[HX.out]at hy;cases hy
     simp only[Gf,hi,HR.out,Bool.and_self]
    exact ho.out j y (by omega) hy
   clear hi hr ho
   go_wp2
   go_roundw
   case rel=>exact⟨k+1,by omega,by go_num,HO,HB6⟩
   simp[intOf];omega
  have hke:k=xs.length:=by omega
  subst hke;have HC:Hid (Dv xs=true):=by
   show _=_
   simp only[Dv,h5,decide_true,Bool.true_and,List.all_eq_true];intro x hx;obtain⟨j,hj,e⟩:=List.mem_iff_getElem.mp hx;exact ho.out j x hj (by rw[gE hj,e])
  clear ho
  go_wp2
  go_ret;exact⟨Ab HC.out.symm,hbel⟩
 have HC:Hid (Dv xs=false):=by show _=_;simp[Dv,h5]
 go_enter func158,ntmps158
 go_wp2
 go_ret;exact⟨Ab HC.out.symm,by go_grown⟩
theorem Xy(s:BA)(c:Int)(w:World) :
  Calls prog 197 #[Y s,.int .u8 c] w λe w'=>e=.returned (X (Lib.indexByte s.data.toList c.toNat.toUInt8))/\w'=w:=by
 go_enter func197,ntmps197
 go_wp2
 rw[run_callFunc_extern func205 (by kernel_rfl) (by kernel_rfl) (by kernel_rfl) (e:=Extern.BytealgIndexByte.indexByte) (by kernel_rfl),Lib.run_indexByteString];simp only[Result.andThen];rw[Oper.upon_value]
 go_wp2
 go_ret;exact⟨rfl,rfl⟩
def Cd(s:BA):Int:=Lib.indexByte s.data.toList 61
def Av(s:BA):BA:=if Cd s<0 then s else s.extract 0 (Cd s).toNat
def Ff(s:BA):BA:=if Cd s<0 then⟨#[]⟩else s.extract ((Cd s).toNat+1) s.size
def Eb(s:BA):Bool:=P.nameOk (Av s)&&(decide (Cd s<0)||P.nameOk (Ff s))
theorem Yu(s:BA)(w:World) :
  Calls prog 191 #[Y s,Y ⟨#[61]⟩] w λe w'=>e=.returned (X (Cd s))/\w'=w:=by
 go_enter func191,ntmps191;go_wp2_with(go_at_call 197;refine(Xy _ _ _).mono ?_;rintro e w' ⟨rfl,rfl⟩)
 .have h:([61]==s.toList)=true:=by assumption
  go_ret;refine⟨?_,rfl⟩;have e:s.data.toList=[61]:=by rw[<-Lib.toList_data];exact(beq_iff_eq.1 h).symm
  unfold Cd;rw[e];simp[Lib.indexByte]
 go_ret;exact⟨rfl,rfl⟩
theorem Vb(s:BA):-1<=Cd s:=Lib.indexByte_ge _ _
theorem Vp{s:BA}{o:Nat}(h:Cd s=o):o<s.size:=by
 have:=(Lib.indexByte_some h).1;rcases Nat.lt_or_ge o s.data.toList.length with h'|h'
 .simpa using h'
 rw[List.getElem?_eq_none h']at this;cases this
theorem gK(s:BA)(w:World)(hs:s.size<=maxLen) :
  Calls prog 175 #[Y s,Y ⟨#[61]⟩] w (Rt (.tuple #[Y (Av s),Y (Ff s),.bool (!decide (Cd s<0))]) w):=by
 unfold maxLen at hs;by_cases hn:Cd s<0
 .have HN:=iH hn
  have h1:Cd s=-1:=by have:=Vb s;omega
  go_enter func175,ntmps175;go_wp2_with(go_at_call 191;refine(Yu _ _).mono ?_;rintro e w' ⟨rfl,rfl⟩;rw[h1])
  go_ret3
  exact⟨by unfold Av Ff;rw[if_pos HN.out,if_pos HN.out,decide_eq_true HN.out];rfl,by go_grown⟩
 obtain⟨o,ho⟩:∃o:Nat,Cd s=o:=⟨(Cd s).toNat,by omega⟩;have hlt:=Vp ho;have HN:=iH hn;have HO:=iH ho;clear hn;go_enter func175,ntmps175;go_wp2_with(go_at_call 191;refine(Yu _ _).mono ?_;rintro e w' ⟨rfl,rfl⟩;rw[HO.out]);have i0:(0:Int)<=(o:Int):=by omega
 have i1:(o:Int)<=(s.size:Int):=by omega
 obtain⟨n1,hn1⟩:∃n1:Nat,n1=o+1:=⟨_,rfl⟩;have i2:(n1:Int)<=(s.size:Int):=by omega
 have i3:(0:Int)<=(n1:Int):=by omega
 have HW:Hid (IntKind.i64.wrap ((o:Int)+1)=(n1:Int)):=by show _=_;rw[IntKind.wrap_i64];omega
 have HN1:=iH hn1;clear hn1;clear ho;refine wp_region_quiet_below (by kernel_rfl) (by kernel_rfl) ?_
 repeat(quiet_step (fail))
 rw[HW.out]
 repeat(quiet_step (fail))
 refine wpQuiet_nil ?_;intro _ hw';obtain⟨⟨dq,osq⟩,hw''⟩:=hw';have hB:=below_regrown w' dq osq;simp only[]at hw'';rw[<-hw'']at hB;clear hw'';have HB:=iH hB;clear hB;go_wp2_with fail
 go_ret3
 have HN2:¬Cd s<0:=by have:=HN.out;omega
 refine⟨?_,HB⟩;unfold Av Ff;rw[if_neg HN2,if_neg HN2,decide_eq_false HN2,HO.out];simp[HN1.out]
theorem Tg(s:BA)(w:World)(hs:s.size<=maxLen) :
  Calls prog 156 #[Y s,Y ⟨#[61]⟩] w (Rt (.tuple #[Y (Av s),Y (Ff s),.bool (!decide (Cd s<0))]) w):=by
 have HS:=iH hs;clear hs;go_enter func156,ntmps156;go_wp2_with fail;refine(gK s _ HS).mono ?_;rintro e w1⟨rfl,hb⟩;have HB:Hid (bW w w1):=(show bW w _ by go_grown).trans (hb.mono (by simp));clear hb;go_wp2_with fail
 go_ret3
 exact⟨rfl,HB⟩
theorem Lp{s:BA}(hs:s.size<=maxLen):(Av s).size<=maxLen:=by
 unfold Av
 split
 .exact hs
 simp[ByteArray.size_extract];omega
theorem Yx{s:BA}(hs:s.size<=maxLen):(Ff s).size<=maxLen:=by
 unfold Ff
 split
 .simp[ByteArray.size,maxLen]
 simp[ByteArray.size_extract];omega
theorem Vl(s:BA)(w:World)(hs:s.size<=maxLen) :
  Calls prog 155 #[Y s] w (Rt (.bool (Eb s)) w):=by
 have HS:=iH hs;have HM:Hid (Eb s=(P.nameOk (Av s)&&(decide (Cd s<0)||P.nameOk (Ff s)))):=rfl;clear hs;generalize Eb s=R at *;go_enter func155,ntmps155;go_wp2_with fail;refine(Tg s _ HS).mono ?_;rintro e w1⟨rfl,hb⟩;have HB:Hid (bW w w1):=(show bW w _ by go_grown).trans (hb.mono (by simp));clear hb;have Z1:Hid ((Av s).size<=maxLen):=Lp HS;have Z2:Hid ((Ff s).size<=maxLen):=Yx HS;generalize Av s=x at *;generalize Ff s=y at *;generalize decide (Cd s<0)=b at *;go_wp2_with fail;refine(Ci x _ Z1).mono ?_;rintro e w2⟨rfl,rfl⟩
 cases hx:P.nameOk x with
 |false =>
  rw[hx]at HM
  go_wp2
  go_ret;exact⟨Ab (by rw[HM.out];rfl),HB⟩
 | true =>
  rw[hx]at HM
  cases b with
  |true =>
   go_wp2
   go_ret;exact⟨Ab (by rw[HM.out];rfl),HB⟩
  |false =>
   go_wp2_with fail;refine(Ci y _ Z2).mono ?_;rintro e w2⟨rfl,rfl⟩;generalize P.nameOk y=c at *
   go_wp2
   go_ret;exact⟨Ab (by rw[HM.out];simp),HB⟩
structure Svc where
 name:BA
 spare:Int
def Dj(x:Svc):Nat:=x.name.size
def SvcC:Eh Svc:=λ_ _ f x=>f 0=some (Y x.name)/\f 1=some (X x.spare)/\x.name.size<=maxLen
abbrev sV:=SliceC SvcC 2
theorem SvcC.holds:Eu SvcC 2:=by
 rintro lo lo' w w' f g x h _ _⟨q0,q1,z0⟩;exact⟨(h 0 (by omega)).trans q0,(h 1 (by omega)).trans q1,z0⟩
theorem oY(x:Svc)(L:Int)(w:World)(z0:x.name.size<=maxLen)(h0:0<=L)(h1:L<=1048576) :
  Calls prog 42 #[.agg #[Y x.name,X x.spare],X L] w (Rt (X (szR (Dj x) L)) w):=by
 unfold maxLen at z0;have HW:Hid (Dj x=x.name.size):=rfl;generalize Dj x=W at *;by_cases d0:L-(x.name.size:Nat)<0
 .go_enter func42,ntmps42
  go_wp2
  go_ret;exact⟨Al (by have:=HW.out;unfold szR;rw[if_neg (by omega)]),by go_grown⟩
 .skip
  go_enter func42,ntmps42
  go_wp2
  go_ret;exact⟨Al (by have:=HW.out;unfold szR;rw[if_pos (by omega)];omega),by go_grown⟩
theorem Gc:(prog.info? 88).map (·.size)=some 2:=by kernel_rfl
theorem Vf:Po 88 2:=⟨_,underlying88,rfl,Gc⟩
theorem qE(x:Svc)(w:World) :
  Calls prog 57 #[.agg #[Y x.name,X x.spare]] w (Rt (.agg #[Y x.name,X x.spare]) w):=by
 go_enter func57,ntmps57
 go_wp2
 go_returns
 exact⟨rfl,by go_grown⟩
theorem nG(x:Svc)(w:World) :
  Calls prog 72 #[.agg #[Y x.name,X x.spare],.agg #[Y x.name,X x.spare]] w (Rt (.bool true) w):=by
 go_enter func72,ntmps72
 go_wp2
 go_ret;exact⟨rfl,by go_grown⟩
theorem kU(xs:List Svc)(a:OA)(cap lo:Nat)(L:Int)(w:World)(hin:sV lo w a xs)(h0:0<=L)(h1:L<=1048576) :
  Calls prog 15 #[.slice a xs.length cap,X L] w (Rt (X (szR (wS Dj xs) L)) w):=by
 have hlen:=hin.1;unfold maxLen at hlen;have HI:=iH hin;clear hin;have HW:Hid (wS Dj xs=xs.length+(xs.map Dj).sum):=rfl;generalize wS Dj xs=W at *;by_cases c1:L-xs.length<0
 .go_enter func15,ntmps15
  go_wp2
  go_ret;exact⟨Al (by have:=HW.out;unfold szR;rw[if_neg (by omega)]),Below.refl _ _⟩
 go_enter func15,ntmps15
 go_wp2
 go_loopw [1,5] (λl i wr=>∃(k:Nat)(M:Int),k<=xs.length/\i=X k/\l=X M/\0<=M/\M<=1048576/\Hid (M=L-xs.length-((xs.take k).map Dj).sum)/\bW w wr) (λ_ i _=>xs.length-(intOf i).toNat)
 case atStart=>exact⟨0,_,zL,rfl,rfl,by omega,by omega,by show _=_;simp,Below.refl _ _⟩
 obtain⟨k,M,hk,rfl,rfl,hM0,hM1,hM,hbel⟩:=hrel;by_cases hlt:k<xs.length
 .obtain⟨x,hx⟩:=gXe hlt
  obtain⟨b,o,rfl,_,_,hc⟩:=(HI.out.below SvcC.holds hbel nL).at hx;obtain⟨q0,q1,z0⟩:=hc;simp only[Nat.add_zero]at q0 q1;have HX:Hid (((xs.take (k+1)).map Dj).sum=((xs.take k).map Dj).sum+Dj x):=Eg _ _ _ _ hx;have HY:Hid (((xs.take (k+1)).map Dj).sum<=(xs.map Dj).sum):=Df _ _ _;have CT:=oY x M wr z0 hM0 hM1;have HCT:=iH CT;clear hx CT;by_cases hr:(Dj x:Int)<=M
  .rw[Ha hr]at HCT
   generalize hV:Dj x=V at *;clear hV;go_wp2_with fail;refine HCT.out.mono ?_;rintro e w1⟨rfl,hb1⟩;clear HCT
   go_wp2
   go_roundw
   case rel =>
    refine⟨k+1,M-V,by omega,by go_num,rfl,by omega,by omega,?_,qTr hbel hb1⟩;have:=hM.out;have:=HX.out;show _=_
    omega
   simp[intOf];omega
  rw[Gz hr]at HCT;generalize hV:Dj x=V at *;clear hV;go_wp2_with fail;refine HCT.out.mono ?_;rintro e w1⟨rfl,hb1⟩;clear HCT
  go_wp2
  go_ret;refine⟨Al ?_,qTr hbel hb1⟩;have:=HW.out;have:=HX.out;have:=HY.out;have:=hM.out;unfold szR;rw[if_neg (by omega)]
 go_wp2
 go_ret;refine⟨Al ?_,hbel⟩;have hke:k=xs.length:=by omega
 subst hke;have h3:=hM.out;have h4:=HW.out;simp only[List.take_length]at h3;unfold szR;rw[if_pos (by omega)];omega
theorem Xa:(prog.info? 88).map (λi=>(i.zero,i.size,i.bytes))=some (some (.agg #[Y ⟨#[]⟩,X 0]),2,24):=by kernel_rfl
theorem iT(xs:List Svc)(a:OA)(cap lo:Nat)(w:World)(hin:sV lo w a xs)(hsm:wS Dj xs<=1048576) :
  Calls prog 22 #[.slice a xs.length cap] w λe w'=>∃g,e=.returned (sP g 0 xs.length xs.length)/\w.heap.size<=g/\sV w.heap.size w' (O g 0) xs/\bW w w':=by
 obtain⟨i0,hi,hz0,hz1,hz2⟩:=info_parts Xa;have hlen:xs.length<=1048576:=lT Ep hsm;have HI:=iH hin;have HSM:=iH hsm;clear hin hsm;go_enter func22,ntmps22;go_wp2_with(at_make;refine wpList_make_full _ rfl _ _ 29 rfl w.heap.size 88 i0 _ 2 underlying29 hi hz0 hz1 .i64 .i64 _ _ xs.length rfl rfl rfl rfl (by rw[hz2];omega) (by unfold maxLen;omega) nL ?_;intro w1 hown hgrow);have hb1:bW w w1:=(Below.refl _ _).grown hgrow nL (λk h=>by cases h);have hsz1:=(hown.lt w.heap.size rfl).2;generalize hX:(madeCells _ (xs.length*2)).toList=xs0 at hown;clear hX hgrow hi hz0 hz1 hz2;go_loopw [4] (λi wr=>∃(k:Nat)(cs:List Value),k<=xs.length/\i=X k/\w.heap.size<wr.heap.size/\wr.ownsRow w.heap.size 88 2 (sP w.heap.size 0 xs.length xs.length) xs.length cs/\RowC SvcC 2 (w.heap.size+1) wr cs xs k/\bW w wr) (λi _=>xs.length-(intOf i).toNat)
 case atStart=>exact⟨0,xs0,zL,rfl,hsz1,hown,λj n h=>by omega,hb1⟩
 clear hown hb1 hsz1;obtain⟨k,cs,hk,rfl,hszr,hown,hfil,hbel⟩:=hrel;by_cases hlt:k<xs.length
 .obtain⟨x,hx⟩:=gXe hlt
  obtain⟨b,o,rfl,_,_,hc⟩:=(HI.out.below SvcC.holds hbel nL).at hx;obtain⟨q0,q1,z0⟩:=hc;simp only[Nat.add_zero]at q0 q1;have HN:=iH hx;have hwx:Dj x<=1048576:=lT (Ml (List.mem_of_getElem? hx)) HSM;have HO:=iH hown;have HF:=iH hfil;have HS:=iH hszr;have CT:=qE x wr;have HCT:=iH CT;clear hx hown hfil CT hszr;go_wp2_with fail;refine HCT.out.mono ?_;rintro e w2⟨rfl,hb2⟩;clear HCT q0 q1;have ho2:=Ak HO hb2;have HB2:=iH (qTr hbel hb2);have HF2:Hid (RowC SvcC 2 (w.heap.size+1) w2 cs xs k):=HF.out.keep SvcC.holds (Keeps.of_below hb2 nL _);have hs2:Hid (w.heap.size<w2.heap.size):=lL HS hb2.size;have HR:Hid (SvcC (w.heap.size+1) w2 (λi=>([Y x.name,X x.spare]:List Value)[i]?) x):=⟨rfl,rfl,z0⟩;have hxl:cs.length=xs.length*2:=ho2.1;have HT:Hid (w2.there w.heap.size (k*2) 2):=Dg ho2 (by omega);have HL:=iH hxl;have HO2:=iH ho2;clear hxl ho2 HO hb2 hwx;obtain⟨w3,hw3⟩:∃w',w'=w2.setCells w.heap.size (k*2) [Y x.name,X x.spare]:=⟨_,rfl⟩;have HW3:=iH hw3;have HS3:Hid (w.heap.size<w3.heap.size):=by rw[hw3,Be];exact hs2
  have HO3:Hid (w3.ownsRow w.heap.size 88 2 (sP w.heap.size 0 xs.length xs.length) xs.length (Cv cs (k*2) [Y x.name,X x.spare])):=by rw[hw3];exact Dr _ _ _ _ HO2
  have HB3:Hid (bW w w3):=by rw[hw3];exact Ae nL _ _ _ HB2
  have HR3:Hid (RowC SvcC 2 (w.heap.size+1) w3 (Cv cs (k*2) [Y x.name,X x.spare]) xs (k+1)):=by
   rw[hw3];exact(HF2.out.step (vs:=[Y x.name,X x.spare]) SvcC.holds HN rfl (by have:=HL.out;omega) HR).keep SvcC.holds (Keeps.setCells (by omega) _ _ _)
  clear hw3 HB2 HF2 hs2 HR HL HO2;go_wp2_with(refine Ai rfl 88 _ _ rfl w.heap.size (k*2) #[Y x.name,X x.spare] (by first|rfl|(simp[go_sem];done)) rfl HT Gc (by simp[Value.oneCell']) w3 HW3 ?_);go_roundw
  case rel=>exact⟨k+1,_,by omega,by go_num,HS3,HO3,HR3,HB3⟩
  simp[intOf];omega
 have HO:=iH hown;have HF:=iH hfil;clear hown hfil
 go_wp2
 go_ret;have hke:k=xs.length:=by omega
 subst hke;exact⟨_,rfl,Nat.le_refl _,Fg HO HF SvcC.holds HI.out.1 (by omega) nL,hbel⟩
theorem jY(xs:List Svc)(a a':OA)(cap cap' lo lo':Nat)(w:World)(hg:sV lo w a xs)(hh:sV lo' w a' xs)(hsm:wS Dj xs<=1048576) :
  Calls prog 29 #[.slice a xs.length cap,.slice a' xs.length cap'] w (Rt (.bool true) w):=by
 have hlen:xs.length<=1048576:=lT Ep hsm;have HG:=iH hg;have HH:=iH hh;clear hg hh hsm;go_enter func29,ntmps29
 go_wp2
 go_loopw [5] (λi wr=>∃(k:Nat),k<=xs.length/\i=X k/\bW w wr) (λi _=>xs.length-(intOf i).toNat)
 case atStart=>exact⟨0,zL,rfl,Below.refl _ _⟩
 obtain⟨k,hk,rfl,hbel⟩:=hrel;by_cases hlt:k<xs.length
 .obtain⟨x,hx⟩:=gXe hlt
  obtain⟨b,o,rfl,_,_,hc⟩:=(HG.out.below SvcC.holds hbel nL).at hx;obtain⟨b',o',rfl,_,_,hc'⟩:=(HH.out.below SvcC.holds hbel nL).at hx;obtain⟨q0,q1,_⟩:=hc;obtain⟨r0,r1,_⟩:=hc';simp only[Nat.add_zero]at q0 q1 r0 r1;have k0:=cell_regrown q0;have l0:=cell_regrown r0;have k1:=cell_regrown q1;have l1:=cell_regrown r1;have cE:∀d os,Calls prog 72 #[.agg #[Y x.name,X x.spare],.agg #[Y x.name,X x.spare]] (Sort.grow (redrawn wr d) os) λe w''=>e=.returned (.bool true)/\∃p:Regrown,w''=Sort.grow (redrawn wr p.d) p.os:=λd os=>Calls.regrown_of (nG x _)
  have i0:(0:Int)<=(k:Int):=by omega
  have i1:(k:Int)<(xs.length:Int):=by omega
  clear hx q0 q1 r0 r1;go_wp2_with fail;refine wp_region_quiet_below (by kernel_rfl) (by kernel_rfl) ?_
  repeat(quiet_step (first|exact cE _ _))
  refine wpQuiet_nil ?_;intro _ hw';obtain⟨⟨dq,osq⟩,hw''⟩:=hw';have hB:=hbel.trans ((below_regrown wr dq osq).mono hbel.size);simp only[]at hw'';rw[<-hw'']at hB;clear hw'' cE k0 l0 k1 l1
  go_wp2
  go_roundw
  case rel=>exact⟨k+1,by omega,by go_num,hB⟩
  simp[intOf];omega
 go_wp2
 go_ret;exact⟨rfl,hbel⟩
structure Brt where
 name:BA
 zone:BA
 marks:List BA
 room:Int
 hold:Int
 closed:Bool
abbrev bbL(x:Brt)(a1:OA)(c1:Nat):List Value:=[Y x.name,Y x.zone,.slice a1 x.marks.length c1,X x.room,X x.hold,.bool x.closed]
abbrev bbA(x:Brt)(a1:OA)(c1:Nat):Array Value:=#[Y x.name,Y x.zone,.slice a1 x.marks.length c1,X x.room,X x.hold,.bool x.closed]
abbrev BbL:List Value:=[Y ⟨#[]⟩,Y ⟨#[]⟩,.slice none 0 0,X 0,X 0,.bool false]
abbrev BbA:Array Value:=#[Y ⟨#[]⟩,Y ⟨#[]⟩,.slice none 0 0,X 0,X 0,.bool false]
def Cn(x:Brt):Nat:=x.name.size+x.zone.size+(wS ByteArray.size x.marks)
def BrtC:Eh Brt:=λlo w f x=>∃(a2:OA)(c2:Nat),f 0=some (Y x.name)/\f 1=some (Y x.zone)/\f 2=some (.slice a2 x.marks.length c2)/\f 3=some (X x.room)/\f 4=some (X x.hold)/\f 5=some (.bool x.closed)/\x.name.size<=maxLen/\x.zone.size<=maxLen/\sX lo w a2 x.marks
abbrev sB:=SliceC BrtC 6
theorem BrtC.holds:Eu BrtC 6:=by
 rintro lo lo' w w' f g x h k hl⟨a2,c2,q0,q1,q2,q3,q4,q5,z0,z1,n2⟩;exact⟨a2,c2,(h 0 (by omega)).trans q0,(h 1 (by omega)).trans q1,(h 2 (by omega)).trans q2,(h 3 (by omega)).trans q3,(h 4 (by omega)).trans q4,(h 5 (by omega)).trans q5,z0,z1,n2.keep StrC.holds k hl⟩
theorem qD(x:Brt)(a2:OA)(c2:Nat)(lo:Nat)(L:Int)(w:World)(z0:x.name.size<=maxLen)(z1:x.zone.size<=maxLen)(n2:sX lo w a2 x.marks)(h0:0<=L)(h1:L<=1048576) :
  Calls prog 41 #[.agg (bbA x a2 c2),X L] w (Rt (X (szR (Cn x) L)) w):=by
 unfold maxLen at z0 z1;have N2:=iH n2;clear n2;have HW:Hid (Cn x=x.name.size+x.zone.size+(wS ByteArray.size x.marks)):=rfl;generalize Cn x=W at *;by_cases d0:L-(x.name.size:Nat)<0
 .go_enter func41,ntmps41
  go_wp2
  go_ret;exact⟨Al (by have:=HW.out;unfold szR;rw[if_neg (by omega)]),by go_grown⟩
 .skip
  by_cases d1:L-(x.name.size:Nat)-(x.zone.size:Nat)<0
  .go_enter func41,ntmps41
   go_wp2
   go_ret;exact⟨Al (by have:=HW.out;unfold szR;rw[if_neg (by omega)]),by go_grown⟩
  .skip
   go_enter func41,ntmps41;go_wp2_with fail;refine(jS x.marks a2 c2 lo _ _ (N2.out.below StrC.holds (B:=w.heap.size) (by go_grown) nL) (by omega) (by omega)).mono ?_;rintro e w1⟨rfl,hb1⟩;have hB1:bW w w1:=(show bW w _ by go_grown).trans (hb1.mono (by simp));have hs1:w.heap.size<w1.heap.size:=by have:=hb1.size;simp at this;omega
   clear hb1;by_cases d2:(((wS ByteArray.size x.marks):Nat):Int)<=L-(x.name.size:Nat)-(x.zone.size:Nat)
   .rw[Ha d2]
    go_wp2
    go_ret;exact⟨Al (by have:=HW.out;unfold szR;rw[if_pos (by omega)];omega),hB1⟩
   rw[Gz d2]
   go_wp2
   go_ret;exact⟨Al (by have:=HW.out;unfold szR;rw[if_neg (by omega)]),hB1⟩
theorem Cg:(prog.info? 92).map (·.size)=some 6:=by kernel_rfl
theorem Ki:Po 92 6:=⟨_,underlying92,rfl,Cg⟩
theorem oO(x:Brt)(a2:OA)(c2:Nat)(lo:Nat)(w:World)(n2:sX lo w a2 x.marks)(hsm:Cn x<=1048576) :
  Calls prog 56 #[.agg (bbA x a2 c2)] w λe w'=>∃g2,e=.returned (.agg (bbA x (O g2 0) x.marks.length))/\sX w.heap.size w' (O g2 0) x.marks/\bW w w':=by
 have N2:=iH n2;have M2:wS ByteArray.size x.marks<=1048576:=by unfold Cn at hsm;omega
 clear hsm n2;go_enter func56,ntmps56;go_wp2_with fail;refine(iS x.marks a2 c2 lo _ (N2.out.below StrC.holds (B:=w.heap.size) (by go_grown) nL) M2).mono ?_;rintro e w1⟨g2,rfl,hg2,hn2,hb1⟩;have hz1:w.heap.size+1+1<w1.heap.size:=by have:=hb1.size;simp at this;omega
 have ko1_0:w1.cell? (E (w.heap.size+1+1) 0)=some (Y x.name):=(hb1.cell (p:=(E (w.heap.size+1+1) 0)) (by simp<;>omega)).trans (by simp[go_sem]);have fo1_0:w1.frozen? (E (w.heap.size+1+1) 0)=false:=(hb1.frozen (p:=(E (w.heap.size+1+1) 0)) (by simp<;>omega)).trans (by simp[go_sem]);have kr1_0:w1.cell? (E (w.heap.size+1) 0)=some (Y ⟨#[]⟩):=(hb1.cell (p:=(E (w.heap.size+1) 0)) (by simp<;>omega)).trans (by simp[go_sem]);have fr1_0:w1.frozen? (E (w.heap.size+1) 0)=false:=(hb1.frozen (p:=(E (w.heap.size+1) 0)) (by simp<;>omega)).trans (by simp[go_sem]);have ko1_1:w1.cell? (E (w.heap.size+1+1) 1)=some (Y x.zone):=(hb1.cell (p:=(E (w.heap.size+1+1) 1)) (by simp<;>omega)).trans (by simp[go_sem]);have fo1_1:w1.frozen? (E (w.heap.size+1+1) 1)=false:=(hb1.frozen (p:=(E (w.heap.size+1+1) 1)) (by simp<;>omega)).trans (by simp[go_sem]);have kr1_1:w1.cell? (E (w.heap.size+1) 1)=some (Y ⟨#[]⟩):=(hb1.cell (p:=(E (w.heap.size+1) 1)) (by simp<;>omega)).trans (by simp[go_sem]);have fr1_1:w1.frozen? (E (w.heap.size+1) 1)=false:=(hb1.frozen (p:=(E (w.heap.size+1) 1)) (by simp<;>omega)).trans (by simp[go_sem]);have ko1_2:w1.cell? (E (w.heap.size+1+1) 2)=some (.slice none 0 0):=(hb1.cell (p:=(E (w.heap.size+1+1) 2)) (by simp<;>omega)).trans (by simp[go_sem]);have fo1_2:w1.frozen? (E (w.heap.size+1+1) 2)=false:=(hb1.frozen (p:=(E (w.heap.size+1+1) 2)) (by simp<;>omega)).trans (by simp[go_sem]);have kr1_2:w1.cell? (E (w.heap.size+1) 2)=some (.slice none 0 0):=(hb1.cell (p:=(E (w.heap.size+1) 2)) (by simp<;>omega)).trans (by simp[go_sem]);have fr1_2:w1.frozen? (E (w.heap.size+1) 2)=false:=(hb1.frozen (p:=(E (w.heap.size+1) 2)) (by simp<;>omega)).trans (by simp[go_sem]);have ka1_3:w1.cell? (E w.heap.size 3)=some (X x.room):=(hb1.cell (p:=(E w.heap.size 3)) (by simp<;>omega)).trans (by simp[go_sem]);have ko1_3:w1.cell? (E (w.heap.size+1+1) 3)=some (X 0):=(hb1.cell (p:=(E (w.heap.size+1+1) 3)) (by simp<;>omega)).trans (by simp[go_sem]);have fo1_3:w1.frozen? (E (w.heap.size+1+1) 3)=false:=(hb1.frozen (p:=(E (w.heap.size+1+1) 3)) (by simp<;>omega)).trans (by simp[go_sem]);have kr1_3:w1.cell? (E (w.heap.size+1) 3)=some (X 0):=(hb1.cell (p:=(E (w.heap.size+1) 3)) (by simp<;>omega)).trans (by simp[go_sem]);have fr1_3:w1.frozen? (E (w.heap.size+1) 3)=false:=(hb1.frozen (p:=(E (w.heap.size+1) 3)) (by simp<;>omega)).trans (by simp[go_sem]);have ka1_4:w1.cell? (E w.heap.size 4)=some (X x.hold):=(hb1.cell (p:=(E w.heap.size 4)) (by simp<;>omega)).trans (by simp[go_sem]);have ko1_4:w1.cell? (E (w.heap.size+1+1) 4)=some (X 0):=(hb1.cell (p:=(E (w.heap.size+1+1) 4)) (by simp<;>omega)).trans (by simp[go_sem]);have fo1_4:w1.frozen? (E (w.heap.size+1+1) 4)=false:=(hb1.frozen (p:=(E (w.heap.size+1+1) 4)) (by simp<;>omega)).trans (by simp[go_sem])
 have kr1_4:w1.cell? (E (w.heap.size+1) 4)=some (X 0):=(hb1.cell (p:=(E (w.heap.size+1) 4)) (by simp<;>omega)).trans (by simp[go_sem]);have fr1_4:w1.frozen? (E (w.heap.size+1) 4)=false:=(hb1.frozen (p:=(E (w.heap.size+1) 4)) (by simp<;>omega)).trans (by simp[go_sem]);have ka1_5:w1.cell? (E w.heap.size 5)=some (.bool x.closed):=(hb1.cell (p:=(E w.heap.size 5)) (by simp<;>omega)).trans (by simp[go_sem]);have ko1_5:w1.cell? (E (w.heap.size+1+1) 5)=some (.bool false):=(hb1.cell (p:=(E (w.heap.size+1+1) 5)) (by simp<;>omega)).trans (by simp[go_sem]);have fo1_5:w1.frozen? (E (w.heap.size+1+1) 5)=false:=(hb1.frozen (p:=(E (w.heap.size+1+1) 5)) (by simp<;>omega)).trans (by simp[go_sem]);have kr1_5:w1.cell? (E (w.heap.size+1) 5)=some (.bool false):=(hb1.cell (p:=(E (w.heap.size+1) 5)) (by simp<;>omega)).trans (by simp[go_sem]);have fr1_5:w1.frozen? (E (w.heap.size+1) 5)=false:=(hb1.frozen (p:=(E (w.heap.size+1) 5)) (by simp<;>omega)).trans (by simp[go_sem]);have hg2':w.heap.size+1+1<g2:=by simp at hg2;omega
 have hB1:bW w w1:=(show bW w _ by go_grown).trans (hb1.mono (by simp<;>omega));have HN2:Hid (sX (w.heap.size+3) w1 (O g2 0) x.marks):=hn2.keep StrC.holds (Keeps.refl _ _) (by simp<;>omega);clear hn2 hb1 hg2;have HPR:Hid (w1.rangeAt (w.heap.size+1+1) 0 [Y x.name,Y x.zone]):=Aa ko1_0 (Aa ko1_1 (Am _ _ _));have HTO:Hid (w1.there (w.heap.size+1+1) 2 4):=Ah ko1_2 fo1_2 (Ah ko1_3 fo1_3 (Ah ko1_4 fo1_4 (Ah ko1_5 fo1_5 (Fa _ _ _))));have HTR:Hid (w1.there (w.heap.size+1) 0 6):=Ah kr1_0 fr1_0 (Ah kr1_1 fr1_1 (Ah kr1_2 fr1_2 (Ah kr1_3 fr1_3 (Ah kr1_4 fr1_4 (Ah kr1_5 fr1_5 (Fa _ _ _))))));clear kr1_0 fr1_0 kr1_1 fr1_1 kr1_2 fr1_2 kr1_3 fr1_3 kr1_4 fr1_4 kr1_5 fr1_5 ko1_0 fo1_0 ko1_1 fo1_1;go_upto_region 8 with fail;have HRG:Hid (World.rangeAt ((((w1.setCell (E (w.heap.size+1+1) 2) (sP g2 0 x.marks.length x.marks.length)).setCell (E (w.heap.size+1+1) 3) (X x.room)).setCell (E (w.heap.size+1+1) 4) (X x.hold)).setCell (E (w.heap.size+1+1) 5) (.bool x.closed)) (w.heap.size+1+1) 0 (bbL x (O g2 0) x.marks.length)):=Oa (vs:=[sP g2 0 x.marks.length x.marks.length,X x.room,X x.hold,.bool x.closed]) HPR rfl HTO;have HTG:Hid (World.there ((((w1.setCell (E (w.heap.size+1+1) 2) (sP g2 0 x.marks.length x.marks.length)).setCell (E (w.heap.size+1+1) 3) (X x.room)).setCell (E (w.heap.size+1+1) 4) (X x.hold)).setCell (E (w.heap.size+1+1) 5) (.bool x.closed)) (w.heap.size+1) 0 6):=World.there_setCells HTR (w.heap.size+1+1) 2 [sP g2 0 x.marks.length x.marks.length,X x.room,X x.hold,.bool x.closed];have HBG:Hid (bW w ((((w1.setCell (E (w.heap.size+1+1) 2) (sP g2 0 x.marks.length x.marks.length)).setCell (E (w.heap.size+1+1) 3) (X x.room)).setCell (E (w.heap.size+1+1) 4) (X x.hold)).setCell (E (w.heap.size+1+1) 5) (.bool x.closed))):=Ae (b:=w.heap.size+1+1) (by omega) [sP g2 0 x.marks.length x.marks.length,X x.room,X x.hold,.bool x.closed] 2 _ hB1;have HG2:Hid (sX (w.heap.size+3) ((((w1.setCell (E (w.heap.size+1+1) 2) (sP g2 0 x.marks.length x.marks.length)).setCell (E (w.heap.size+1+1) 3) (X x.room)).setCell (E (w.heap.size+1+1) 4) (X x.hold)).setCell (E (w.heap.size+1+1) 5) (.bool x.closed)) (O g2 0) x.marks):=HN2.out.keep StrC.holds (Keeps.setCells (b:=w.heap.size+1+1) (by omega) [sP g2 0 x.marks.length x.marks.length,X x.room,X x.hold,.bool x.closed] 2 _) nL;clear ko1_2 fo1_2 ko1_3 fo1_3 ko1_4 fo1_4 ko1_5 fo1_5 ka1_3 ka1_4 ka1_5 HPR HTO HTR hz1 hB1 HN2 hg2';generalize((((w1.setCell (E (w.heap.size+1+1) 2) (sP g2 0 x.marks.length x.marks.length)).setCell (E (w.heap.size+1+1) 3) (X x.room)).setCell (E (w.heap.size+1+1) 4) (X x.hold)).setCell (E (w.heap.size+1+1) 5) (.bool x.closed))=w9 at *;obtain⟨w10,hw10⟩:∃w',w'=w9.setCells (w.heap.size+1) 0 (bbL x (O g2 0) x.marks.length):=⟨_,rfl⟩;have HR10:Hid (w10.rangeAt (w.heap.size+1) 0 (bbL x (O g2 0) x.marks.length)):=by rw[hw10];exact World.rangeAt_setCells_same _ _ _ _ HTG
 have HB10:Hid (bW w w10):=by rw[hw10];exact Ae (by omega) _ _ _ HBG
 have HS2:Hid (sX w.heap.size w10 (O g2 0) x.marks):=by rw[hw10];exact HG2.out.keep StrC.holds (Keeps.setCells (by omega) _ _ _) (by omega)
 have HW10:=iH hw10;clear hw10 HBG HG2;go_wp2_with(first|(refine qLr Ki HRG ?_)|(refine Ai rfl 92 _ _ rfl (w.heap.size+1) 0 (bbA x (O g2 0) x.marks.length) rfl rfl HTG Cg (by simp[Value.oneCell']) w10 HW10 ?_));exact bodyPost_ret (Ay rfl _ _ (w.heap.size+1) (bbL x (O g2 0) x.marks.length) _ rfl HR10 underlying92 rfl Cg) rfl ⟨g2,rfl,HS2,HB10⟩
theorem oX(x:Brt)(a2:OA)(c2:Nat)(a2p:OA)(c2p:Nat)(lo lo':Nat)(w:World)(n2:sX lo w a2 x.marks)(p2:sX lo' w a2p x.marks)(hsm:Cn x<=1048576) :
  Calls prog 71 #[.agg (bbA x a2 c2),.agg (bbA x a2p c2p)] w (Rt (.bool true) w):=by
 have N2:=iH n2;have P2:=iH p2;have M2:wS ByteArray.size x.marks<=1048576:=by unfold Cn at hsm;omega
 clear hsm n2 p2;go_enter func71,ntmps71;go_wp2_with fail;refine(Uw x.marks a2 a2p c2 c2p lo lo' _ (N2.out.below StrC.holds (B:=w.heap.size) (by go_grown) nL) (P2.out.below StrC.holds (B:=w.heap.size) (by go_grown) nL) M2).mono ?_;rintro e w1⟨rfl,hb1⟩;have hB1:bW w w1:=(show bW w _ by go_grown).trans (hb1.mono (by simp;omega));have k1_3:w1.cell? (E w.heap.size 3)=some (X x.room):=(hb1.cell (p:=(E w.heap.size 3)) (by simp;omega)).trans (by simp);have l1_3:w1.cell? (E (w.heap.size+1) 3)=some (X x.room):=(hb1.cell (p:=(E (w.heap.size+1) 3)) (by simp)).trans (by simp);have k1_4:w1.cell? (E w.heap.size 4)=some (X x.hold):=(hb1.cell (p:=(E w.heap.size 4)) (by simp;omega)).trans (by simp);have l1_4:w1.cell? (E (w.heap.size+1) 4)=some (X x.hold):=(hb1.cell (p:=(E (w.heap.size+1) 4)) (by simp)).trans (by simp);have k1_5:w1.cell? (E w.heap.size 5)=some (.bool x.closed):=(hb1.cell (p:=(E w.heap.size 5)) (by simp;omega)).trans (by simp);have l1_5:w1.cell? (E (w.heap.size+1) 5)=some (.bool x.closed):=(hb1.cell (p:=(E (w.heap.size+1) 5)) (by simp)).trans (by simp);have hs1:w.heap.size+1<w1.heap.size:=by have:=hb1.size;simp at this;omega
 clear hb1
 go_wp2
 go_ret;exact⟨rfl,hB1⟩
theorem iZ(xs:List Brt)(a:OA)(cap lo:Nat)(L:Int)(w:World)(hin:sB lo w a xs)(h0:0<=L)(h1:L<=1048576) :
  Calls prog 14 #[.slice a xs.length cap,X L] w (Rt (X (szR (wS Cn xs) L)) w):=by
 have hlen:=hin.1;unfold maxLen at hlen;have HI:=iH hin;clear hin;have HW:Hid (wS Cn xs=xs.length+(xs.map Cn).sum):=rfl;generalize wS Cn xs=W at *;by_cases c1:L-xs.length<0
 .go_enter func14,ntmps14
  go_wp2
  go_ret;exact⟨Al (by have:=HW.out;unfold szR;rw[if_neg (by omega)]),Below.refl _ _⟩
 go_enter func14,ntmps14
 go_wp2
 go_loopw [1,5] (λl i wr=>∃(k:Nat)(M:Int),k<=xs.length/\i=X k/\l=X M/\0<=M/\M<=1048576/\Hid (M=L-xs.length-((xs.take k).map Cn).sum)/\bW w wr) (λ_ i _=>xs.length-(intOf i).toNat)
 case atStart=>exact⟨0,_,zL,rfl,rfl,by omega,by omega,by show _=_;simp,Below.refl _ _⟩
 obtain⟨k,M,hk,rfl,rfl,hM0,hM1,hM,hbel⟩:=hrel;by_cases hlt:k<xs.length
 .obtain⟨x,hx⟩:=gXe hlt
  obtain⟨b,o,rfl,_,_,hc⟩:=(HI.out.below BrtC.holds hbel nL).at hx;obtain⟨a2,c2,q0,q1,q2,q3,q4,q5,z0,z1,n2⟩:=hc;simp only[Nat.add_zero]at q0 q1 q2 q3 q4 q5;have HX:Hid (((xs.take (k+1)).map Cn).sum=((xs.take k).map Cn).sum+Cn x):=Eg _ _ _ _ hx;have HY:Hid (((xs.take (k+1)).map Cn).sum<=(xs.map Cn).sum):=Df _ _ _;have CT:=qD x a2 c2 lo M wr z0 z1 n2 hM0 hM1;have HCT:=iH CT;clear hx CT;by_cases hr:(Cn x:Int)<=M
  .rw[Ha hr]at HCT
   generalize hV:Cn x=V at *;clear hV;go_wp2_with fail;refine HCT.out.mono ?_;rintro e w1⟨rfl,hb1⟩;clear HCT
   go_wp2
   go_roundw
   case rel =>
    refine⟨k+1,M-V,by omega,by go_num,rfl,by omega,by omega,?_,qTr hbel hb1⟩;have:=hM.out;have:=HX.out;show _=_
    omega
   simp[intOf];omega
  rw[Gz hr]at HCT;generalize hV:Cn x=V at *;clear hV;go_wp2_with fail;refine HCT.out.mono ?_;rintro e w1⟨rfl,hb1⟩;clear HCT
  go_wp2
  go_ret;refine⟨Al ?_,qTr hbel hb1⟩;have:=HW.out;have:=HX.out;have:=HY.out;have:=hM.out;unfold szR;rw[if_neg (by omega)]
 go_wp2
 go_ret;refine⟨Al ?_,hbel⟩;have hke:k=xs.length:=by omega
 subst hke;have h3:=hM.out;have h4:=HW.out;simp only[List.take_length]at h3;unfold szR;rw[if_pos (by omega)];omega
theorem Vg:(prog.info? 92).map (λi=>(i.zero,i.size,i.bytes))=some (some (.agg BbA),6,80):=by kernel_rfl
theorem kS(xs:List Brt)(a:OA)(cap lo:Nat)(w:World)(hin:sB lo w a xs)(hsm:wS Cn xs<=1048576) :
  Calls prog 21 #[.slice a xs.length cap] w λe w'=>∃g,e=.returned (sP g 0 xs.length xs.length)/\w.heap.size<=g/\sB w.heap.size w' (O g 0) xs/\bW w w':=by
 obtain⟨i0,hi,hz0,hz1,hz2⟩:=info_parts Vg;have hlen:xs.length<=1048576:=lT Ep hsm;have HI:=iH hin;have HSM:=iH hsm;clear hin hsm;go_enter func21,ntmps21;go_wp2_with(at_make;refine wpList_make_full _ rfl _ _ 28 rfl w.heap.size 92 i0 _ 6 underlying28 hi hz0 hz1 .i64 .i64 _ _ xs.length rfl rfl rfl rfl (by rw[hz2];omega) (by unfold maxLen;omega) nL ?_;intro w1 hown hgrow);have hb1:bW w w1:=(Below.refl _ _).grown hgrow nL (λk h=>by cases h);have hsz1:=(hown.lt w.heap.size rfl).2;generalize hX:(madeCells _ (xs.length*6)).toList=xs0 at hown;clear hX hgrow hi hz0 hz1 hz2;go_loopw [4] (λi wr=>∃(k:Nat)(cs:List Value),k<=xs.length/\i=X k/\w.heap.size<wr.heap.size/\wr.ownsRow w.heap.size 92 6 (sP w.heap.size 0 xs.length xs.length) xs.length cs/\RowC BrtC 6 (w.heap.size+1) wr cs xs k/\bW w wr) (λi _=>xs.length-(intOf i).toNat)
 case atStart=>exact⟨0,xs0,zL,rfl,hsz1,hown,λj n h=>by omega,hb1⟩
 clear hown hb1 hsz1;obtain⟨k,cs,hk,rfl,hszr,hown,hfil,hbel⟩:=hrel;by_cases hlt:k<xs.length
 .obtain⟨x,hx⟩:=gXe hlt
  obtain⟨b,o,rfl,_,_,hc⟩:=(HI.out.below BrtC.holds hbel nL).at hx;obtain⟨a2,c2,q0,q1,q2,q3,q4,q5,z0,z1,n2⟩:=hc;simp only[Nat.add_zero]at q0 q1 q2 q3 q4 q5;have HN:=iH hx;have hwx:Cn x<=1048576:=lT (Ml (List.mem_of_getElem? hx)) HSM;have HO:=iH hown;have HF:=iH hfil;have HS:=iH hszr;have CT:=oO x a2 c2 lo wr n2 hwx;have HCT:=iH CT;clear hx hown hfil CT hszr;go_wp2_with fail;refine HCT.out.mono ?_;rintro e w2⟨g2,rfl,m2,hb2⟩;clear HCT q0 q1 q2 q3 q4 q5 n2;have ho2:=Ak HO hb2;have HB2:=iH (qTr hbel hb2);have HF2:Hid (RowC BrtC 6 (w.heap.size+1) w2 cs xs k):=HF.out.keep BrtC.holds (Keeps.of_below hb2 nL _);have hs2:Hid (w.heap.size<w2.heap.size):=lL HS hb2.size;have HR:Hid (BrtC (w.heap.size+1) w2 (λi=>((bbL x (O g2 0) x.marks.length):List Value)[i]?) x):=⟨_,_,rfl,rfl,rfl,rfl,rfl,rfl,z0,z1,m2.keep StrC.holds (Keeps.refl _ _) (by have:=hbel.size;have:=HS.out;omega)⟩;have hxl:cs.length=xs.length*6:=ho2.1;have HT:Hid (w2.there w.heap.size (k*6) 6):=Dg ho2 (by omega);have HL:=iH hxl;have HO2:=iH ho2;clear hxl ho2 HO hb2 hwx m2;obtain⟨w3,hw3⟩:∃w',w'=w2.setCells w.heap.size (k*6) (bbL x (O g2 0) x.marks.length):=⟨_,rfl⟩;have HW3:=iH hw3;have HS3:Hid (w.heap.size<w3.heap.size):=by rw[hw3,Be];exact hs2
  have HO3:Hid (w3.ownsRow w.heap.size 92 6 (sP w.heap.size 0 xs.length xs.length) xs.length (Cv cs (k*6) (bbL x (O g2 0) x.marks.length))):=by rw[hw3];exact Dr _ _ _ _ HO2
  have HB3:Hid (bW w w3):=by rw[hw3];exact Ae nL _ _ _ HB2
  have HR3:Hid (RowC BrtC 6 (w.heap.size+1) w3 (Cv cs (k*6) (bbL x (O g2 0) x.marks.length)) xs (k+1)):=by
   rw[hw3];exact(HF2.out.step (vs:=(bbL x (O g2 0) x.marks.length)) BrtC.holds HN rfl (by have:=HL.out;omega) HR).keep BrtC.holds (Keeps.setCells (by omega) _ _ _)
  clear hw3 HB2 HF2 hs2 HR HL HO2;go_wp2_with(refine Ai rfl 92 _ _ rfl w.heap.size (k*6) (bbA x (O g2 0) x.marks.length) (by first|rfl|(simp[go_sem];done)) rfl HT Cg (by simp[Value.oneCell']) w3 HW3 ?_);go_roundw
  case rel=>exact⟨k+1,_,by omega,by go_num,HS3,HO3,HR3,HB3⟩
  simp[intOf];omega
 have HO:=iH hown;have HF:=iH hfil;clear hown hfil
 go_wp2
 go_ret;have hke:k=xs.length:=by omega
 subst hke;exact⟨_,rfl,Nat.le_refl _,Fg HO HF BrtC.holds HI.out.1 (by omega) nL,hbel⟩
theorem kE(xs:List Brt)(a a':OA)(cap cap' lo lo':Nat)(w:World)(hg:sB lo w a xs)(hh:sB lo' w a' xs)(hsm:wS Cn xs<=1048576) :
  Calls prog 28 #[.slice a xs.length cap,.slice a' xs.length cap'] w (Rt (.bool true) w):=by
 have hlen:xs.length<=1048576:=lT Ep hsm;have HG:=iH hg;have HH:=iH hh;have HSM:=iH hsm;clear hg hh hsm;go_enter func28,ntmps28
 go_wp2
 go_loopw [5] (λi wr=>∃(k:Nat),k<=xs.length/\i=X k/\bW w wr) (λi _=>xs.length-(intOf i).toNat)
 case atStart=>exact⟨0,zL,rfl,Below.refl _ _⟩
 obtain⟨k,hk,rfl,hbel⟩:=hrel;by_cases hlt:k<xs.length
 .obtain⟨x,hx⟩:=gXe hlt
  obtain⟨b,o,rfl,_,_,hc⟩:=(HG.out.below BrtC.holds hbel nL).at hx;obtain⟨b',o',rfl,_,_,hc'⟩:=(HH.out.below BrtC.holds hbel nL).at hx;obtain⟨a2,c2,q0,q1,q2,q3,q4,q5,_,_,n2⟩:=hc;obtain⟨a2p,c2p,r0,r1,r2,r3,r4,r5,_,_,p2⟩:=hc';simp only[Nat.add_zero]at q0 q1 q2 q3 q4 q5 r0 r1 r2 r3 r4 r5;have hwx:Cn x<=1048576:=lT (Ml (List.mem_of_getElem? hx)) HSM;have k0:=cell_regrown q0;have l0:=cell_regrown r0;have k1:=cell_regrown q1;have l1:=cell_regrown r1;have k2:=cell_regrown q2;have l2:=cell_regrown r2;have k3:=cell_regrown q3;have l3:=cell_regrown r3;have k4:=cell_regrown q4;have l4:=cell_regrown r4;have k5:=cell_regrown q5;have l5:=cell_regrown r5;have cE:∀d os,Calls prog 71 #[.agg (bbA x a2 c2),.agg (bbA x a2p c2p)] (Sort.grow (redrawn wr d) os) λe w''=>e=.returned (.bool true)/\∃p:Regrown,w''=Sort.grow (redrawn wr p.d) p.os:=λd os=>Calls.regrown_of (oX x a2 c2 a2p c2p lo lo' _ (n2.below StrC.holds (below_regrown wr d os) nL) (p2.below StrC.holds (below_regrown wr d os) nL) hwx)
  have i0:(0:Int)<=(k:Int):=by omega
  have i1:(k:Int)<(xs.length:Int):=by omega
  clear hx q0 q1 q2 q3 q4 q5 r0 r1 r2 r3 r4 r5 n2 p2 hwx;go_wp2_with fail;refine wp_region_quiet_below (by kernel_rfl) (by kernel_rfl) ?_
  repeat(quiet_step (first|exact cE _ _))
  refine wpQuiet_nil ?_;intro _ hw';obtain⟨⟨dq,osq⟩,hw''⟩:=hw';have hB:=hbel.trans ((below_regrown wr dq osq).mono hbel.size);simp only[]at hw'';rw[<-hw'']at hB;clear hw'' cE k0 l0 k1 l1 k2 l2 k3 l3 k4 l4 k5 l5
  go_wp2
  go_roundw
  case rel=>exact⟨k+1,by omega,by go_num,hB⟩
  simp[intOf];omega
 go_wp2
 go_ret;exact⟨rfl,hbel⟩
end Go.Proofs.YthboopnmbglkjaaGreat
