import Derived.Test.YtpidfnfilnkhkaaGreatFlt
import Derived.Maps.Own
import Derived.Maps.OwnSet
import Derived.Maps.Views
import Derived.Maps.OwnOps
import Derived.Laws.Cover1
set_option maxHeartbeats 2000000
set_option maxRecDepth 100000
namespace Go.Proofs.YtpidfnfilnkhkaaGreat
open Go.RowKit Go.WideMaps Go.Maps Tryz
theorem Cp:Keyed prog 9:=string_keyed underlying9
theorem Cz(w:World):(zeroValue 3).run prog w=.ok (.int .i64 0) w:=by kernel_rfl
theorem Hj{P:Program}{t k e:TypeId}(hu:P.underlying t=some (.map k e))(q:IntKind)(n:Int)(w:World):(Instr.makeMap t (some (.int q n))).run P w=.ok (.map (some w.heap.size)) (w.alloc (.map #[] 0)):=by
 simp[Instr.makeMap,run_underlying hu,asInt,asIntOf,Result.andThen]
theorem Af{H:Type}{P:Program}{k:TypeId}{R:Value->Option (DataW H×List MemPlace)}{b n:Nat}{D:DataW H}{w w':World}{B:Nat}(h:w.ownsMap P k R b n D)(hb:Below B w w')(hB:b<B):w'.ownsMap P k R b n D:=by
 obtain⟨es,clock,h1,h2,h3,h4⟩:=h;exact⟨es,clock,(hb.block b hB).trans h1,h2,h3,h4⟩
def kOf(s:BA):Lit:=.string s.data.toList
def Ah(ns:List BA):Nat->DataW Unit
 |0=>.map []
 |k+1=>match ns[k]? with
  |some s=>(Ah ns k).put (kOf s) (.lit (.int .i64 k))
  |none=>Ah ns k
theorem Gb(ns:List BA):∀k,IsMap (Ah ns k)
 |0=>⟨_,rfl⟩
 |k+1=>by
  unfold Ah
  split
  .exact IsMap.put (Gb ns k) _ _
  .exact Gb ns k
theorem Zt{s t:BA}(h:kOf s=kOf t):s=t:=by
 unfold kOf at h;injection h with h
 cases s with|mk a=>cases t with|mk b=>simp at h;simp[h]
def Al(ns:List BA)(s:BA):Nat->Option Nat
 |0=>none
 |k+1=>if ns[k]?=some s then some k else Al ns s k
theorem Gv(ns:List BA)(s:BA):∀k,has (Ah ns k) (kOf s)=(Al ns s k).isSome
 |0=>rfl
 | k+1=>by
  unfold Ah Al
  cases hk:ns[k]? with
  |none=>simp;exact Gv ns s k
  | some t =>
   by_cases e:t=s
   .subst e
    simp;exact has_put_same (Gb ns k) (show WideAt.IsKeyLit (kOf _)from trivial) _
   .simp[e]
    rw[has_put_other (λh=>e (Zt h).symm)];exact Gv ns s k
theorem Ia(ns:List BA)(s:BA):∀k,(Ah ns k).atKey (kOf s) (.lit (.int .i64 0))=.lit (.int .i64 (((Al ns s k).getD 0:Nat):Int))
 |0=>rfl
 | k+1=>by
  unfold Ah Al
  cases hk:ns[k]? with
  |none=>simp;exact Ia ns s k
  | some t =>
   by_cases e:t=s
   .subst e
    simp;exact atKey_put_same (Gb ns k) (show WideAt.IsKeyLit (kOf _)from trivial) _ _
   .simp[e]
    rw[atKey_put_other (λh=>e (Zt h).symm)];exact Ia ns s k
theorem Fy(x:Brt)(a2:OA)(c2:Nat)(w:World) :
  Calls prog 100 #[.agg (bbA x a2 c2)] w (Rt (.string x.name) w):=by
 go_enter func100,ntmps100
 go_wp2
 go_ret;exact⟨rfl,by go_grown⟩
theorem Xf(xs:List Brt)(a:OA)(cap lo:Nat)(w:World)(hin:SliceC BrtC 6 lo w a xs)(hsm:xs.length<=1048576) :
  Calls prog 99 #[.slice a xs.length cap,.func (.func 100) #[] #[]] w λe w'=>e=.returned (.map (some w.heap.size))/\w'.ownsMap prog 9 (plainElem prog 3) w.heap.size xs.length (Ah (xs.map (·.name)) xs.length)/\Below w.heap.size w w':=by
 have hmm:∀q n w,(Instr.makeMap 64 (some (.int q n))).run prog w=.ok (.map (some w.heap.size)) (w.alloc (.map #[] 0)):=λq n w=>Hj underlying64 q n w
 have HI:=iH hin;clear hin;go_enter func99,ntmps99
 go_wp2
 go_loopw [13] (λi wr=>∃k:Nat,k<=xs.length/\i=.int .i64 k/\wr.ownsMap prog 9 (plainElem prog 3) w.heap.size k (Ah (xs.map (·.name)) k)/\Below w.heap.size w wr)
  (λi _=>xs.length-(intOf i).toNat)
 case atStart=>exact⟨0,zL,rfl,World.ownsMap_made _ _ _ _,(Below.refl _ _).alloc nL _⟩
 case round =>
  obtain⟨k,hk,rfl,hown,hbel⟩:=hrel;by_cases hlt:k<xs.length
  .obtain⟨x,hx⟩:=gXe hlt
   obtain⟨b,o,rfl,_,_,hc⟩:=(HI.out.below BrtC.holds hbel nL).at hx;obtain⟨a2,c2,q0,q1,q2,q3,q4,q5,z0,_,_⟩:=hc;simp only[Nat.add_zero]at q0 q1 q2 q3 q4 q5;have HP:Hid (Ah (xs.map (·.name)) (k+1)=(Ah (xs.map (·.name)) k).put (kOf x.name) (.lit (.int .i64 k))):=by
    show _=_
    simp[Ah,hx]
   have hkey:keyOf prog 9 (.string x.name)=some (kOf x.name):=keyOf_string_mk underlying9 z0;have HO:=iH hown;have HB:=iH hbel;have hws:w.heap.size<wr.heap.size:=hown.lt;have HRA:Hid (wr.rangeAt b (o+k*6) (bbL x a2 c2)):=Aa q0 (Aa q1 (Aa q2 (Aa q3 (Aa q4 (Aa q5 (Ao _ _ _))))));clear hx hown hbel q0 q1 q2 q3 q4 q5;generalize Ah (xs.map (·.name)) k=D at *;go_upto_region 5 with(first|(refine qLr Nz HRA ?_));have HR4:=qRa wr (bbA x a2 c2) 52 (bbL x a2 c2);have HO4:Hid ((wr.alloc (Obj.cells (bbA x a2 c2) 52)).ownsMap prog 9 (plainElem prog 3) w.heap.size k D):=HO.out.alloc _;have HB4:Hid (Below w.heap.size w (wr.alloc (Obj.cells (bbA x a2 c2) 52))):=HB.out.alloc (by omega) _;generalize wr.alloc (Obj.cells (bbA x a2 c2) 52)=w4 at *;go_wp2_with(first|(refine qLr Nz HR4 ?_));refine(Fy x a2 c2 _).mono ?_;rintro e w5⟨rfl,hb5⟩;have HO5:=iH (Af HO4 hb5 HO4.out.lt);have HB5:=qTH HB4 hb5;clear hb5 HO4 HB4 HR4;go_wp2_with(at_mapUpdate;refine wpList_mapUpdate_own _ rfl _ _ _ 64 rfl 9 3 Cp underlying64 _ w.heap.size k _ rfl HO5 (by unfold maxLen;omega) _ _ _ rfl rfl hkey _ [] (plainElem_int underlying3 (WalkArith.wf_i64 (by omega))) ?_;intro w6 hown6 hgrow6);have R1:=HP.out.symm▸hown6;have R2:=HB5.out.grown hgrow6 HB5.out.size (λj hj=>by cases hj;exact Nat.le_refl _);have HR1:Hid (w6.ownsMap prog 9 (plainElem prog 3) w.heap.size (k+1) (Ah (xs.map (·.name)) (k+1))):=R1;clear hown6 hgrow6 R1 hkey
   go_wp2
   go_roundw
   case rel=>exact⟨k+1,by omega,by go_num,HR1,R2⟩
   case measure=>simp[intOf];omega
  .have HO:=iH hown
   clear hown
   go_wp2
   go_ret;have hke:k=xs.length:=by omega
   subst hke;exact⟨rfl,HO,hbel⟩
theorem Ga(x:Svc)(w:World) :
  Calls prog 102 #[.agg #[.string x.name,.int .i64 x.spare]] w (Rt (.string x.name) w):=by
 go_enter func102,ntmps102
 go_wp2
 go_ret;exact⟨rfl,by go_grown⟩
theorem Xg(xs:List Svc)(a:OA)(cap lo:Nat)(w:World)(hin:SliceC SvcC 2 lo w a xs)(hsm:xs.length<=1048576) :
  Calls prog 101 #[.slice a xs.length cap,.func (.func 102) #[] #[]] w λe w'=>e=.returned (.map (some w.heap.size))/\w'.ownsMap prog 9 (plainElem prog 3) w.heap.size xs.length (Ah (xs.map (·.name)) xs.length)/\Below w.heap.size w w':=by
 have hmm:∀q n w,(Instr.makeMap 64 (some (.int q n))).run prog w=.ok (.map (some w.heap.size)) (w.alloc (.map #[] 0)):=λq n w=>Hj underlying64 q n w
 have HI:=iH hin;clear hin;go_enter func101,ntmps101
 go_wp2
 go_loopw [13] (λi wr=>∃k:Nat,k<=xs.length/\i=.int .i64 k/\wr.ownsMap prog 9 (plainElem prog 3) w.heap.size k (Ah (xs.map (·.name)) k)/\Below w.heap.size w wr)
  (λi _=>xs.length-(intOf i).toNat)
 case atStart=>exact⟨0,zL,rfl,World.ownsMap_made _ _ _ _,(Below.refl _ _).alloc nL _⟩
 case round =>
  obtain⟨k,hk,rfl,hown,hbel⟩:=hrel;by_cases hlt:k<xs.length
  .obtain⟨x,hx⟩:=gXe hlt
   obtain⟨b,o,rfl,_,_,hc⟩:=(HI.out.below SvcC.holds hbel nL).at hx;obtain⟨q0,q1,z0⟩:=hc;simp only[Nat.add_zero]at q0 q1;have HP:Hid (Ah (xs.map (·.name)) (k+1)=(Ah (xs.map (·.name)) k).put (kOf x.name) (.lit (.int .i64 k))):=by
    show _=_
    simp[Ah,hx]
   have hkey:keyOf prog 9 (.string x.name)=some (kOf x.name):=keyOf_string_mk underlying9 z0;have HO:=iH hown;have HB:=iH hbel;have hws:w.heap.size<wr.heap.size:=hown.lt;have HRA:Hid (wr.rangeAt b (o+k*2) [.string x.name,.int .i64 x.spare]):=Aa q0 (Aa q1 (Ao _ _ _));clear hx hown hbel q0 q1;generalize Ah (xs.map (·.name)) k=D at *;go_upto_region 5 with(first|(refine qLr lH HRA ?_));have HR4:=qRa wr #[.string x.name,.int .i64 x.spare] 88 [.string x.name,.int .i64 x.spare];have HO4:Hid ((wr.alloc (Obj.cells #[.string x.name,.int .i64 x.spare] 88)).ownsMap prog 9 (plainElem prog 3) w.heap.size k D):=HO.out.alloc _;have HB4:Hid (Below w.heap.size w (wr.alloc (Obj.cells #[.string x.name,.int .i64 x.spare] 88))):=HB.out.alloc (by omega) _;generalize wr.alloc (Obj.cells #[.string x.name,.int .i64 x.spare] 88)=w4 at *;go_wp2_with(first|(refine qLr lH HR4 ?_));refine(Ga x  _).mono ?_;rintro e w5⟨rfl,hb5⟩;have HO5:=iH (Af HO4 hb5 HO4.out.lt);have HB5:=qTH HB4 hb5;clear hb5 HO4 HB4 HR4;go_wp2_with(at_mapUpdate;refine wpList_mapUpdate_own _ rfl _ _ _ 64 rfl 9 3 Cp underlying64 _ w.heap.size k _ rfl HO5 (by unfold maxLen;omega) _ _ _ rfl rfl hkey _ [] (plainElem_int underlying3 (WalkArith.wf_i64 (by omega))) ?_;intro w6 hown6 hgrow6);have R1:=HP.out.symm▸hown6;have R2:=HB5.out.grown hgrow6 HB5.out.size (λj hj=>by cases hj;exact Nat.le_refl _);have HR1:Hid (w6.ownsMap prog 9 (plainElem prog 3) w.heap.size (k+1) (Ah (xs.map (·.name)) (k+1))):=R1;clear hown6 hgrow6 R1 hkey
   go_wp2
   go_roundw
   case rel=>exact⟨k+1,by omega,by go_num,HR1,R2⟩
   case measure=>simp[intOf];omega
  .have HO:=iH hown
   clear hown
   go_wp2
   go_ret;have hke:k=xs.length:=by omega
   subst hke;exact⟨rfl,HO,hbel⟩
theorem Fx(x:Cpy)(a7:OA)(c7:Nat)(w:World) :
  Calls prog 104 #[.agg (ccA x a7 c7)] w (Rt (.string x.name) w):=by
 go_enter func104,ntmps104
 go_wp2
 go_ret;exact⟨rfl,by go_grown⟩
theorem Wn(xs:List Cpy)(a:OA)(cap lo:Nat)(w:World)(hin:SliceC CpyC 12 lo w a xs)(hsm:xs.length<=1048576) :
  Calls prog 103 #[.slice a xs.length cap,.func (.func 104) #[] #[]] w λe w'=>e=.returned (.map (some w.heap.size))/\w'.ownsMap prog 9 (plainElem prog 3) w.heap.size xs.length (Ah (xs.map (·.name)) xs.length)/\Below w.heap.size w w':=by
 have hmm:∀q n w,(Instr.makeMap 64 (some (.int q n))).run prog w=.ok (.map (some w.heap.size)) (w.alloc (.map #[] 0)):=λq n w=>Hj underlying64 q n w
 have HI:=iH hin;clear hin;go_enter func103,ntmps103
 go_wp2
 go_loopw [13] (λi wr=>∃k:Nat,k<=xs.length/\i=.int .i64 k/\wr.ownsMap prog 9 (plainElem prog 3) w.heap.size k (Ah (xs.map (·.name)) k)/\Below w.heap.size w wr)
  (λi _=>xs.length-(intOf i).toNat)
 case atStart=>exact⟨0,zL,rfl,World.ownsMap_made _ _ _ _,(Below.refl _ _).alloc nL _⟩
 case round =>
  obtain⟨k,hk,rfl,hown,hbel⟩:=hrel;by_cases hlt:k<xs.length
  .obtain⟨x,hx⟩:=gXe hlt
   obtain⟨b,o,rfl,_,_,hc⟩:=(HI.out.below CpyC.holds hbel nL).at hx;obtain⟨a7,c7,q0,q1,q2,q3,q4,q5,q6,q7,q8,q9,q10,q11,z0,_,_,_,_,_,_⟩:=hc;simp only[Nat.add_zero]at q0 q1 q2 q3 q4 q5 q6 q7 q8 q9 q10 q11;have HP:Hid (Ah (xs.map (·.name)) (k+1)=(Ah (xs.map (·.name)) k).put (kOf x.name) (.lit (.int .i64 k))):=by
    show _=_
    simp[Ah,hx]
   have hkey:keyOf prog 9 (.string x.name)=some (kOf x.name):=keyOf_string_mk underlying9 z0;have HO:=iH hown;have HB:=iH hbel;have hws:w.heap.size<wr.heap.size:=hown.lt;have HRA:Hid (wr.rangeAt b (o+k*12) (ccL x a7 c7)):=Aa q0 (Aa q1 (Aa q2 (Aa q3 (Aa q4 (Aa q5 (Aa q6 (Aa q7 (Aa q8 (Aa q9 (Aa q10 (Aa q11 (Ao _ _ _))))))))))));clear hx hown hbel q0 q1 q2 q3 q4 q5 q6 q7 q8 q9 q10 q11;generalize Ah (xs.map (·.name)) k=D at *;go_upto_region 5 with(first|(refine qLr Jg HRA ?_));have HR4:=qRa wr (ccA x a7 c7) 49 (ccL x a7 c7);have HO4:Hid ((wr.alloc (Obj.cells (ccA x a7 c7) 49)).ownsMap prog 9 (plainElem prog 3) w.heap.size k D):=HO.out.alloc _;have HB4:Hid (Below w.heap.size w (wr.alloc (Obj.cells (ccA x a7 c7) 49))):=HB.out.alloc (by omega) _;generalize wr.alloc (Obj.cells (ccA x a7 c7) 49)=w4 at *;go_wp2_with(first|(refine qLr Jg HR4 ?_));refine(Fx x a7 c7 _).mono ?_;rintro e w5⟨rfl,hb5⟩;have HO5:=iH (Af HO4 hb5 HO4.out.lt);have HB5:=qTH HB4 hb5;clear hb5 HO4 HB4 HR4;go_wp2_with(at_mapUpdate;refine wpList_mapUpdate_own _ rfl _ _ _ 64 rfl 9 3 Cp underlying64 _ w.heap.size k _ rfl HO5 (by unfold maxLen;omega) _ _ _ rfl rfl hkey _ [] (plainElem_int underlying3 (WalkArith.wf_i64 (by omega))) ?_;intro w6 hown6 hgrow6);have R1:=HP.out.symm▸hown6;have R2:=HB5.out.grown hgrow6 HB5.out.size (λj hj=>by cases hj;exact Nat.le_refl _);have HR1:Hid (w6.ownsMap prog 9 (plainElem prog 3) w.heap.size (k+1) (Ah (xs.map (·.name)) (k+1))):=R1;clear hown6 hgrow6 R1 hkey
   go_wp2
   go_roundw
   case rel=>exact⟨k+1,by omega,by go_num,HR1,R2⟩
   case measure=>simp[intOf];omega
  .have HO:=iH hown
   clear hown
   go_wp2
   go_ret;have hke:k=xs.length:=by omega
   subst hke;exact⟨rfl,HO,hbel⟩
def Ck(t:BA)(r:List BA):Nat:=r.countP (λs=>decide (s=t))
theorem bX(t:BA)(r:List BA):Ck t r<=r.length:=List.countP_le_length
theorem Lh(t:BA)(r:List BA):Ck t (t::r)=Ck t r+1:=by simp[Ck]
theorem Hg{t s:BA}(h:¬s=t)(r:List BA):Ck t (s::r)=Ck t r:=by simp[Ck,h]
def Gi:List BA->DataW Unit
 |[]=>.map []
 |s::r=>(Gi r).put (kOf s) (.lit (.int .i64 (((Ck s r:Nat):Int)+1)))
theorem Uc:∀r,IsMap (Gi r)
 |[]=>⟨_,rfl⟩
 |_::r=>IsMap.put (Uc r) _ _
theorem Nl(t:BA):∀r:List BA,(Gi r).atKey (kOf t) (.lit (.int .i64 0))=.lit (.int .i64 ((Ck t r:Nat):Int))
 |[]=>rfl
 | s::r=>by
  unfold Gi;by_cases e:s=t
  .subst e
   rw[atKey_put_same (Uc r) (show WideAt.IsKeyLit (kOf _)from trivial),Lh];simp
  .rw[atKey_put_other (λh=>e (Zt h).symm),Nl t r,Hg e]
def Pf(m:BA):List BA:=if Ec m=true then(if Cc m<0 then[Ar m]else [m,Ar m])else []
def Cy(ms:List BA):Nat->List BA
 |0=>[]
 |k+1=>match ms[k]? with
  |some m=>Pf m++Cy ms k
  |none=>Cy ms k
theorem uG(m:BA):(Pf m).length<=2:=by
 unfold Pf
 split
 .split<;>simp
 .simp
theorem Qu(ms:List BA):∀k,(Cy ms k).length<=2*k
 |0=>by simp[Cy]
 | k+1=>by
  unfold Cy;have:=Qu ms k
  split
  .rename_i m _
   have:=uG m;simp;omega
  .omega
theorem Oi{ms:List BA}{k:Nat}{m:BA}(h:ms[k]?=some m):Cy ms (k+1)=Pf m++Cy ms k:=by
 simp[Cy,h]
theorem fH{P:Program}{w:World}(t:TypeId):(Instr.makeMap t none).run P w=.ok (.map (some w.heap.size)) (w.alloc (.map #[] 0)):=rfl
theorem Eg{a b:Int}(h:(DataW.lit (Lit.int .i64 a):DataW Unit)=.lit (.int .i64 b)):a=b:=by
 injection h with h;injection h
theorem Sb(ms:List BA)(a:OA)(cap lo:Nat)(w:World)(hin:SliceC StrC 1 lo w a ms)(hsm:ms.length<=1048576) :
  Calls prog 159 #[.slice a ms.length cap] w λe w'=>∃m n,e=.returned (.map (some m))/\w'.ownsMap prog 9 (plainElem prog 3) m n (Gi (Cy ms ms.length))/\Below w.heap.size w w':=by
 have hmm:∀w,(Instr.makeMap 212 none).run prog w=.ok (.map (some w.heap.size)) (w.alloc (.map #[] 0)):=λw=>fH _
 have HI:=iH hin;clear hin;go_enter func159,ntmps159
 go_wp2
 go_loopw [12] (λi wr=>∃k n:Nat,k<=ms.length/\i=.int .i64 k/\Hid (n<=2*k)/\Hid (wr.ownsMap prog 9 (plainElem prog 3) w.heap.size n (Gi (Cy ms k)))/\Hid (Below w.heap.size w wr))
  (λi _=>ms.length-(intOf i).toNat)
 case atStart=>exact⟨0,0,zL,rfl,Nat.le_refl _,World.ownsMap_made _ _ _ _,(Below.refl _ _).alloc nL _⟩
 case round =>
  obtain⟨k,n,hk,rfl,hn,ho,hbel⟩:=hrel;by_cases hlt:k<ms.length
  .obtain⟨m,hm⟩:=gXe hlt
   obtain⟨b,o,rfl,_,_,hc⟩:=(HI.out.below StrC.holds hbel.out nL).at hm;obtain⟨q0,z0⟩:=hc;simp only[Nat.mul_one,Nat.add_zero]at q0;have HX:=iH hm;have HZ:=iH z0;clear hm z0;go_wp2_with fail;refine(Vl m _ HZ).mono ?_;rintro e w1⟨rfl,hb1⟩;have HB1:=qTH hbel hb1;have HO1:=iH (Af ho.out hb1 ho.out.lt);clear hb1 hbel ho q0
   cases hmk:Ec m with
   |false =>
    have HK:Hid (Cy ms (k+1)=Cy ms k):=by show _=_;rw[Oi HX.out];simp[Pf,hmk]
    clear hmk
    go_wp2
    go_roundw
    case rel=>exact⟨k+1,n,by omega,by go_num,by have:=hn.out;show _<=_;omega,by show World.ownsMap _ _ _ _ _ _ _;rw[HK.out];exact HO1.out,HB1⟩
    case measure=>simp[intOf];omega
   | true =>
    go_wp2_with fail;refine(Sy m _ HZ).mono ?_;rintro e w2⟨rfl,hb2⟩;have HB2:=qTH HB1 hb2;have HO2:=iH (Af HO1 hb2 HO1.out.lt);clear hb2 HB1 HO1;have ZN:Hid ((Ar m).size<=maxLen):=Lg HZ;have HKR:Hid (Pf m=if Cc m<0 then[Ar m]else [m,Ar m]):=by show _=_;simp[Pf,hmk]
    clear hmk;have hkn:keyOf prog 9 (.string (Ar m))=some (kOf (Ar m)):=keyOf_string_mk underlying9 ZN;have hkm:keyOf prog 9 (.string m)=some (kOf m):=keyOf_string_mk underlying9 HZ;have HL:Hid ((Cy ms k).length<=2*k):=Qu ms k;obtain⟨R,hR⟩:∃R,R=Cy ms k:=⟨_,rfl⟩;have HR:=iH hR;rw[<-hR]at HO2 HL;clear hR;generalize Ar m=nm at *;generalize Fm m=vl at *;obtain⟨c0,hc0⟩:∃c0:Nat,c0=Ck nm R:=⟨_,rfl⟩;have HA0:Hid ((Gi R).atKey (kOf nm) (.lit (.int .i64 0))=.lit (.int .i64 (c0:Int))):=by show _=_;rw[hc0];exact Nl nm R
    have hc0l:c0<=2097152:=by have:=bX nm R;have:=HL.out;omega
    have HC0:Hid (Gi (nm::R)=(Gi R).put (kOf nm) (.lit (.int .i64 ((c0:Int)+1)))):=by show _=_;rw[hc0];rfl
    clear hc0;go_upto_region 8 with(first|(at_lookup;refine wpList_lookup_own_int _ rfl _ _ 212 rfl 9 3 .i64 Cp underlying212 underlying3 (Cz _) w.heap.size _ _ rfl HO2 _ _ rfl hkn ?_;intro c hcc _;obtain rfl:=Eg (hcc.symm.trans HA0))|(at_mapUpdate;refine wpList_mapUpdate_own _ rfl _ _ _ 212 rfl 9 3 Cp underlying212 _ w.heap.size n _ rfl HO2 (by have:=hn.out;unfold maxLen;omega) _ _ _ rfl rfl hkn _ [] (plainElem_int underlying3 (WalkArith.wf_i64 (by omega))) ?_;intro w3 hown3 hgrow3));have HO3:Hid (w3.ownsMap prog 9 (plainElem prog 3) w.heap.size (n+1) (Gi (nm::R))):=HC0.out.symm▸hown3;have HB3:Hid (Below w.heap.size w w3):=HB2.out.grown hgrow3 HB2.out.size (λj hj=>by cases hj;exact Nat.le_refl _);clear hown3 hgrow3 HO2 HB2 HA0 HC0 hkn;by_cases hv:Cc m<0
    .have HK:Hid (Cy ms (k+1)=nm::R):=by show _=_;rw[Oi HX.out,HKR.out,if_pos hv,<-HR.out];rfl
     have hvd:decide (Cc m<0)=true:=decide_eq_true hv;rw[hvd];clear hv hvd HKR
     go_wp2
     go_roundw
     case rel=>exact⟨k+1,n+1,by omega,by go_num,by have:=hn.out;show _<=_;omega,by show World.ownsMap _ _ _ _ _ _ _;rw[HK.out];exact HO3.out,HB3⟩
     case measure=>simp[intOf];omega
    .have HK:Hid (Cy ms (k+1)=m::nm::R):=by show _=_;rw[Oi HX.out,HKR.out,if_neg hv,<-HR.out];rfl
     have hvd:decide (Cc m<0)=false:=decide_eq_false hv;rw[hvd];clear hv hvd HKR;obtain⟨c1,hc1⟩:∃c1:Nat,c1=Ck m (nm::R):=⟨_,rfl⟩;have HA1:Hid ((Gi (nm::R)).atKey (kOf m) (.lit (.int .i64 0))=.lit (.int .i64 (c1:Int))):=by show _=_;rw[hc1];exact Nl m _
     have hc1l:c1<=2097153:=by have:=bX m (nm::R);have:=HL.out;simp at *;omega
     have HC1:Hid (Gi (m::nm::R)=(Gi (nm::R)).put (kOf m) (.lit (.int .i64 ((c1:Int)+1)))):=by show _=_;rw[hc1];rfl
     clear hc1;generalize Gi (nm::R)=D at *;go_upto_region 10 with(first|(at_lookup;refine wpList_lookup_own_int _ rfl _ _ 212 rfl 9 3 .i64 Cp underlying212 underlying3 (Cz _) w.heap.size _ _ rfl HO3 _ _ rfl hkm ?_;intro c hcc _;obtain rfl:=Eg (hcc.symm.trans HA1))|(at_mapUpdate;refine wpList_mapUpdate_own _ rfl _ _ _ 212 rfl 9 3 Cp underlying212 _ w.heap.size (n+1) _ rfl HO3 (by have:=hn.out;unfold maxLen;omega) _ _ _ rfl rfl hkm _ [] (plainElem_int underlying3 (WalkArith.wf_i64 (by omega))) ?_;intro w4 hown4 hgrow4));have HO4:Hid (w4.ownsMap prog 9 (plainElem prog 3) w.heap.size (n+1+1) (Gi (m::nm::R))):=HC1.out.symm▸hown4;have HB4:Hid (Below w.heap.size w w4):=HB3.out.grown hgrow4 HB3.out.size (λj hj=>by cases hj;exact Nat.le_refl _);clear hown4 hgrow4 HO3 HB3 HA1 HC1 hkm
     go_wp2
     go_roundw
     case rel=>exact⟨k+1,n+1+1,by omega,by go_num,by have:=hn.out;show _<=_;omega,by show World.ownsMap _ _ _ _ _ _ _;rw[HK.out];exact HO4.out,HB4⟩
     case measure=>simp[intOf];omega
  .have hke:k=ms.length:=by omega
   subst hke
   go_wp2
   go_ret;exact⟨_,n,rfl,ho.out,hbel.out⟩
def Cj(x:Cpy):Bool :=
 inR x.rank 0 100&&inR x.born 0 1000000&&inR x.room 0 1000&&inR x.hold 0 1000&&decide (Aq x.select=0)&&Ev x.likes&&inR x.apart 0 2&&Cg x.near&&Cg x.fixed
theorem Ae{w w':World}{g o B:Nat}{l:List Value}(h:w.rangeAt g o l)(hb:Below B w w')(hB:g<B):w'.rangeAt g o l:=by
 intro j v hj;rw[hb.cell (p:=⟨g,_,none⟩) hB];exact h j v hj
theorem Wl(x:Cpy)(a7:OA)(c7 lo:Nat)(w:World)(z6:x.select.size<=maxLen)(hin:SliceC LikC 2 lo w a7 x.likes)(z9:x.near.size<=maxLen)(z10:x.fixed.size<=maxLen) :
  Calls prog 132 #[.agg (ccA x a7 c7)] w (Rt (.bool (Cj x)) w):=by
 have HI:=iH hin;have Z6:=iH z6;have Z9:=iH z9;have Z10:=iH z10;have hlen:=hin.1;unfold maxLen at hlen;clear hin z6 z9 z10;go_enter func132,ntmps132;go_wp2_with fail;have HR:=qRa w (ccA x a7 c7) 49 (ccL x a7 c7);have HB:=iH ((Below.refl _ w).alloc nL (Obj.cells (ccA x a7 c7) 49));have HS:Hid (w.heap.size<(w.alloc (Obj.cells (ccA x a7 c7) 49)).heap.size):=by show _<_;simp
 generalize w.alloc (Obj.cells (ccA x a7 c7) 49)=w0 at *;refine(Kb _ _ _ _).mono ?_;rintro e w1⟨rfl,hb⟩;have HR1:=iH (Ae HR hb HS);have HB1:=qTH HB hb;have HS1:Hid (w.heap.size<w1.heap.size):=lL HS hb.size;clear HR HB HS hb;have HR:=HR1;have HB:=HB1;have HS:=HS1;clear HR1 HB1 HS1;cases h:inR x.rank 0 100
 .have HC:Hid (Cj x=false):=by show _=_;simp only[Cj,h,Bool.false_and]
  clear h
  go_wp2
  go_ret;exact⟨Ab HC.out.symm,HB⟩
 have H1:=iH h;clear h;have e0:w1.cell? ⟨w.heap.size,3,none⟩=some (.int .i64 x.born):=HR.out 3 _ rfl;go_wp2_with fail;clear e0;refine(Kb _ _ _ _).mono ?_;rintro e w2⟨rfl,hb⟩;have HR2:=iH (Ae HR hb HS);have HB2:=qTH HB hb;have HS2:Hid (w.heap.size<w2.heap.size):=lL HS hb.size;clear HR HB HS hb;have HR:=HR2;have HB:=HB2;have HS:=HS2;clear HR2 HB2 HS2;cases h:inR x.born 0 1000000
 .have HC:Hid (Cj x=false):=by show _=_;simp only[Cj,h,Bool.and_false,Bool.false_and]
  clear h
  go_wp2
  go_ret;exact⟨Ab HC.out.symm,HB⟩
 have H2:=iH h;clear h;have e0:w2.cell? ⟨w.heap.size,4,none⟩=some (.int .i64 x.room):=HR.out 4 _ rfl;go_wp2_with fail;clear e0;refine(Lm _ _).mono ?_;rintro e w3⟨rfl,hb⟩;have HR3:=iH (Ae HR hb HS);have HB3:=qTH HB hb;have HS3:Hid (w.heap.size<w3.heap.size):=lL HS hb.size;clear HR HB HS hb;have HR:=HR3;have HB:=HB3;have HS:=HS3;clear HR3 HB3 HS3;cases h:inR x.room 0 1000
 .have HC:Hid (Cj x=false):=by show _=_;simp only[Cj,h,Bool.and_false,Bool.false_and]
  clear h
  go_wp2
  go_ret;exact⟨Ab HC.out.symm,HB⟩
 have H3:=iH h;clear h;have e0:w3.cell? ⟨w.heap.size,5,none⟩=some (.int .i64 x.hold):=HR.out 5 _ rfl;go_wp2_with fail;clear e0;refine(Lm _ _).mono ?_;rintro e w4⟨rfl,hb⟩;have HR4:=iH (Ae HR hb HS);have HB4:=qTH HB hb;have HS4:Hid (w.heap.size<w4.heap.size):=lL HS hb.size;clear HR HB HS hb;have HR:=HR4;have HB:=HB4;have HS:=HS4;clear HR4 HB4 HS4;cases h:inR x.hold 0 1000
 .have HC:Hid (Cj x=false):=by show _=_;simp only[Cj,h,Bool.and_false,Bool.false_and]
  clear h
  go_wp2
  go_ret;exact⟨Ab HC.out.symm,HB⟩
 have H4:=iH h;clear h;have e0:w4.cell? ⟨w.heap.size,6,none⟩=some (.string x.select):=HR.out 6 _ rfl;go_wp2_with fail;clear e0;refine(Oq _ _ Z6).mono ?_;rintro e w5⟨rfl,hb⟩;have HR5:=iH (Ae HR hb HS);have HB5:=qTH HB hb;have HS5:Hid (w.heap.size<w5.heap.size):=lL HS hb.size;clear HR HB HS hb;have HR:=HR5;have HB:=HB5;have HS:=HS5;clear HR5 HB5 HS5;cases h:decide (Aq x.select=0)
 .have HC:Hid (Cj x=false):=by show _=_;simp only[Cj,h,Bool.and_false,Bool.false_and]
  clear h
  go_wp2
  go_ret;exact⟨Ab HC.out.symm,HB⟩
 have H5:=iH h;clear h;have e0:w5.cell? ⟨w.heap.size,7,none⟩=some (.slice a7 x.likes.length c7):=HR.out 7 _ rfl;go_wp2_with fail;clear e0;refine(fZ x.likes a7 c7 lo _ (HI.out.below LikC.holds HB nL)).mono ?_;rintro e w6⟨rfl,hb⟩;have HR6:=iH (Ae HR hb HS);have HB6:=qTH HB hb;have HS6:Hid (w.heap.size<w6.heap.size):=lL HS hb.size;clear HR HB HS hb;have HR:=HR6;have HB:=HB6;have HS:=HS6;clear HR6 HB6 HS6;cases h:Ev x.likes
 .have HC:Hid (Cj x=false):=by show _=_;simp only[Cj,h,Bool.and_false,Bool.false_and]
  clear h
  go_wp2
  go_ret;exact⟨Ab HC.out.symm,HB⟩
 have H6:=iH h;clear h;have e0:w6.cell? ⟨w.heap.size,8,none⟩=some (.int .i64 x.apart):=HR.out 8 _ rfl;go_wp2_with fail;clear e0;refine(Kb _ _ _ _).mono ?_;rintro e w7⟨rfl,hb⟩;have HR7:=iH (Ae HR hb HS);have HB7:=qTH HB hb;have HS7:Hid (w.heap.size<w7.heap.size):=lL HS hb.size;clear HR HB HS hb;have HR:=HR7;have HB:=HB7;have HS:=HS7;clear HR7 HB7 HS7;cases h:inR x.apart 0 2
 .have HC:Hid (Cj x=false):=by show _=_;simp only[Cj,h,Bool.and_false,Bool.false_and]
  clear h
  go_wp2
  go_ret;exact⟨Ab HC.out.symm,HB⟩
 have H7:=iH h;clear h;have e0:w7.cell? ⟨w.heap.size,9,none⟩=some (.string x.near):=HR.out 9 _ rfl;go_wp2_with fail;clear e0;refine(Jy _ _ Z9).mono ?_;rintro e w8⟨rfl,hb⟩;have HR8:=iH (Ae HR hb HS);have HB8:=qTH HB hb;have HS8:Hid (w.heap.size<w8.heap.size):=lL HS hb.size;clear HR HB HS hb;have HR:=HR8;have HB:=HB8;have HS:=HS8;clear HR8 HB8 HS8;cases h:Cg x.near
 .have HC:Hid (Cj x=false):=by show _=_;simp only[Cj,h,Bool.and_false,Bool.false_and]
  clear h
  go_wp2
  go_ret;exact⟨Ab HC.out.symm,HB⟩
 have H8:=iH h;clear h;have e0:w8.cell? ⟨w.heap.size,10,none⟩=some (.string x.fixed):=HR.out 10 _ rfl;go_wp2_with fail;clear e0;refine(Jy _ _ Z10).mono ?_;rintro e w9⟨rfl,hb⟩;have HR9:=iH (Ae HR hb HS);have HB9:=qTH HB hb;have HS9:Hid (w.heap.size<w9.heap.size):=lL HS hb.size;clear HR HB HS hb;have HR:=HR9;have HB:=HB9;have HS:=HS9;clear HR9 HB9 HS9;cases h:Cg x.fixed
 .have HC:Hid (Cj x=false):=by show _=_;simp only[Cj,h,Bool.and_false]
  clear h
  go_wp2
  go_ret;exact⟨Ab HC.out.symm,HB⟩
 have H9:=iH h;clear h;have HC:Hid (Cj x=true):=by show _=_;simp only[Cj,H1.out,H2.out,H3.out,H4.out,H5.out,H6.out,H7.out,H8.out,H9.out,Bool.and_self]
 go_wp2
 go_ret;exact⟨Ab HC.out.symm,HB⟩
end Go.Proofs.YtpidfnfilnkhkaaGreat
