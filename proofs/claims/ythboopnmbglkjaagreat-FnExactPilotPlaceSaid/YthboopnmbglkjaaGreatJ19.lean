import Derived.Test.YthboopnmbglkjaaGreatJ18
set_option maxHeartbeats 1000000
set_option maxRecDepth 100000
namespace Go.Proofs.YthboopnmbglkjaaGreat
open Go.RowKit Go.WideMaps Go.Maps Tryz
theorem Dq(ns:List BA)(s:BA):∀k,Ar ns s k=none↔∀j,j<k->ns[j]?≠some s
 |0=>by simp[Ar]
 | k+1=>by
  unfold Ar;by_cases h:ns[k]?=some s
  .rw[if_pos h]
   constructor
   .intro e;cases e
   intro e;exact absurd h (e k (by omega))
  rw[if_neg h,Dq ns s k];constructor
  .intro e j hj
   by_cases hjk:j=k
   .subst hjk;exact h
   exact e j (by omega)
  intro e j hj;exact e j (by omega)
theorem bR(bs:List Brt)(s:BA):He bs s<0↔Ar (bs.map (·.name)) s bs.length=none:=by
 rw[Dq];unfold He
 cases h:bs.findIdx? (λb=>decide (b.name=s))with
 | none =>
  rw[List.findIdx?_eq_none_iff]at h;constructor
  .intro _ j hj e
   rw[List.getElem?_map,gE hj]at e;simp at e;have:=h bs[j] (List.getElem_mem hj);simp at this;exact this e
  intro _;decide
 | some k =>
  rw[List.findIdx?_eq_some_iff_getElem]at h;obtain⟨hk,h1,_⟩:=h;constructor
  .intro e
   simp at e;omega
  intro e;refine absurd ?_ (e k hk);rw[List.getElem?_map,gE hk];simpa using h1
theorem Cz{s:BA}(h:s=⟨#[]⟩):s.toList=[]:=by
 rw[ByteArray.toList_eq,h]
theorem Bt{s:BA}(h:¬s=⟨#[]⟩):¬s.toList=[]:=by
 intro e;rw[ByteArray.toList_eq]at e;apply h
 cases s with|mk x=>cases x;simp at e;simp[e]
def Fj(cs:List Cpy)(s:BA)(k:Nat):Int×Int:=if s=⟨#[]⟩then(0,0)else (Bd cs s (-1) k).2
theorem rJ{cs:List Cpy}{s:BA}{k:Nat}{c:Cpy}(hs:¬s=⟨#[]⟩)(hk:cs[k]?=some c)(h1:c.at_=s):Fj cs s (k+1)=(wrap64 ((Fj cs s k).1+c.room),wrap64 ((Fj cs s k).2+c.hold)):=by
 unfold Fj;rw[if_neg hs,if_neg hs,hP hk h1 (by omega)]
theorem Yn{cs:List Cpy}{s:BA}{k:Nat}{c:Cpy}(hk:cs[k]?=some c)(h:s=⟨#[]⟩\/¬c.at_=s):Fj cs s (k+1)=Fj cs s k:=by
 unfold Fj;by_cases hs:s=⟨#[]⟩
 .rw[if_pos hs,if_pos hs]
 rw[if_neg hs,if_neg hs,Yj hk (λe=>by rcases h with h|h;exact hs h;exact h e.1)]
def Md(x:Flt)(s:BA):Int×Int:=if He x.berths s<0 then(0,0)else Fj x.copies s x.copies.length
theorem bT(x:Flt)(a1:OA)(c1:Nat)(a2:OA)(c2:Nat)(a3:OA)(c3:Nat)(lo:Nat)(s:BA)(w:World)(n1:sB lo w a1 x.berths)(n3:sC lo w a3 x.copies)(l1:x.berths.length<=1048576)(l3:x.copies.length<=1048576) :
  Calls prog 49 #[.agg (ffA x a1 c1 a2 c2 a3 c3),Y s] w (Rt (.tuple #[X (Md x s).1,X (Md x s).2]) w):=by
 have HI:=iH n3;have HJ:=iH n1;clear n1 n3;have HU:Hid (Md x s=if He x.berths s<0 then(0,0)else Fj x.copies s x.copies.length):=rfl;generalize Md x s=U at *;go_enter func49,ntmps49;go_wp2_with fail;refine(Ma x a1 c1 a2 c2 a3 c3 lo s _ (HJ.out.below BrtC.holds (B:=w.heap.size) (by go_grown) nL) l1).mono ?_;rintro e w1⟨rfl,hb1⟩;have hB1:bW w w1:=(show bW w _ by go_grown).trans (hb1.mono (by simp));have k1:w1.cell? (E w.heap.size 3)=some (.slice a3 x.copies.length c3):=(hb1.cell (p:=(E w.heap.size 3)) (by simp)).trans (by simp);clear hb1
 try unfold ffA
 generalize x.copies=cs at *;generalize He x.berths s=I at *;by_cases hI:I<0
 .have HU2:Hid (U=(0,0)):=by rw[HU.out,if_pos hI];rfl
  go_wp2
  go_ret2
  exact⟨by rw[HU2.out];rfl,hB1⟩
 have HU2:Hid (U=Fj cs s cs.length):=by rw[HU.out,if_neg hI];rfl
 have HSE:Hid (s=⟨#[]⟩\/¬s=⟨#[]⟩):=Classical.em _
 go_wp2
 go_loopw [6,7,8] (λr h i wr=>∃k:Nat,k<=cs.length/\i=X k/\r=X (Fj cs s k).1/\h=X (Fj cs s k).2/\wr.cell? (E w.heap.size 3)=some (.slice a3 cs.length c3)/\bW w wr) (λ_ _ i _=>cs.length-(intOf i).toNat)
 case atStart=>exact⟨0,zL,rfl,by simp[Fj,Bd],by simp[Fj,Bd],k1,hB1⟩
 obtain⟨k,hk,rfl,rfl,rfl,hcell,hbel⟩:=hrel;by_cases hlt:k<cs.length
 .obtain⟨x,hx⟩:=gXe hlt
  obtain⟨b,o,rfl,_,_,hc⟩:=(HI.out.below CpyC.holds hbel nL).at hx;obtain⟨a7,c7,q0,q1,q2,q3,q4,q5,q6,q7,q8,q9,q10,q11,_,_,_,_,_,_,_⟩:=hc;have HX:=iH hx;clear hx q0 q1 q2 q3 q6 q7 q8 q9 q10;rcases HSE.out with hs|hs
  .have HV:Hid (Fj cs s (k+1)=Fj cs s k):=Yn HX (.inl hs)
   have hte:=Cz hs;have hte2:s.toList.isEmpty=true:=by rw[hte];rfl
   clear hs
   go_wp2
   go_roundw
   case rel=>exact⟨k+1,by omega,by go_num,by rw[HV.out],by rw[HV.out],hcell,hbel⟩
   simp[intOf];omega
  have hte:=Bt hs;have hte2:s.toList.isEmpty=false:=by
   cases h:s.toList with
   |nil=>exact absurd h hte
   |cons a l=>rfl
  by_cases h1:x.at_=s
  .have HV:Hid (Fj cs s (k+1)=_):=rJ hs HX h1
   have htf:=Bm h1;clear h1 hs;generalize hS:Fj cs s k=S at *;have HS:=iH hS;clear hS
   go_wp2
   go_roundw
   case rel=>exact⟨k+1,by omega,by go_num,by rw[HV.out],by rw[HV.out],hcell,hbel⟩
   simp[intOf];omega
  have HV:Hid (Fj cs s (k+1)=Fj cs s k):=Yn HX (.inr h1);have htf:=Bn h1;clear h1 hs
  go_wp2
  go_roundw
  case rel=>exact⟨k+1,by omega,by go_num,by rw[HV.out],by rw[HV.out],hcell,hbel⟩
  simp[intOf];omega
 have hke:k=cs.length:=by omega
 subst hke
 go_wp2
 go_ret2
 exact⟨by rw[HU2.out];rfl,hbel⟩
def Im(ns:List BA):Nat->Bool
 |0=>true
 |j+1=>match ns[j+1]?,ns[j]? with
  |some s,some t=>Op.bytesLess t.toList s.toList
  |_,_=>true
def Ec(f:Nat->Bool):Nat->Bool
 |0=>true
 |k+1=>Ec f k&&f k
theorem Jd{f:Nat->Bool}{k:Nat}(h:f k=false):∀n,k<n->Ec f n=false
 |0,hn=>absurd hn (Nat.not_lt_zero _)
 |n+1,hn=>by
  by_cases e:k=n
  .subst e;simp only[Ec,h,Bool.and_false]
  simp only[Ec,Jd h n (by omega),Bool.false_and]
theorem Ou{f:Nat->Bool}{k:Nat}(h:Ec f k=true)(h':f k=true):Ec f (k+1)=true:=by
 simp only[Ec,h,h',Bool.and_self]
def Gr(x:Flt)(k:Nat):Bool:=match x.services[k]? with
 |some y=>P.nameOk y.name&&(Im (x.services.map (·.name)) k&&inB y.spare 0 60)
 |none=>true
def Gi(x:Flt)(k:Nat):Bool:=match x.copies[k]? with
 |some y=>Sm y&&(Im (x.copies.map (·.name)) k&&(!decide (Rm x.services y.service<0)&&(decide (y.at_=⟨#[]⟩)||!decide (He x.berths y.at_<0))))
 |none=>true
def Fo(x:Flt)(k:Nat):Bool:=match x.berths[k]? with
 |some y=>Mg y&&(Im (x.berths.map (·.name)) k&&(!decide (y.room<(Md x y.name).1)&&(!decide (y.hold<(Md x y.name).2)&&!decide (10<Gj x.copies y.name x.copies.length))))
 |none=>true
def cH(x:Flt)(k:Nat):Bool:=!Gr x k
def bF(x:Flt)(k:Nat):Bool:=!Gi x k
def dB(x:Flt)(k:Nat):Bool:=!Fo x k
def Uu(x:Flt):Bool:=Dn x&&(Ec (Gr x) x.services.length&&(Ec (Gi x) x.copies.length&&Ec (Fo x) x.berths.length))
theorem Rz{α:Type}{f:α->BA}{xs:List α}{j k:Nat}{y z:α}(hk:k=j+1)(hy:xs[k]?=some y)(hz:xs[j]?=some z):Im (xs.map f) k=Op.bytesLess (f z).toList (f y).toList:=by
 subst hk;simp only[Im,List.getElem?_map,hy,hz,Option.map_some]
theorem Ld{s:BA}(h:P.nameOk s=true):Cd s=-1:=by
 refine fW (λj hj e=>?_);unfold P.nameOk at h;rw[Bool.and_eq_true,List.all_eq_true]at h;have:=h.2 61 (List.mem_of_getElem? e);revert this
 decide
def Lx(ms:List BA)(nm:BA):Nat->Nat
 |0=>0
 |j+1=>Lx ms nm j+(match ms[j]? with
  |some t=>if Av t=nm then 1 else 0
  |none=>0)
theorem Rc{m:BA}(h:Eb m=true):P.nameOk (Av m)=true:=by
 unfold Eb at h;rw[Bool.and_eq_true]at h;exact h.1
theorem iL{m nm:BA}(h:Eb m=true)(hn:P.nameOk nm=true)(r:List BA):Cm nm (Qv m++r)=Cm nm r+(if Av m=nm then 1 else 0):=by
 unfold Qv;rw[if_pos h];by_cases hv:Cd m<0
 .rw[if_pos hv]
  by_cases e:Av m=nm
  .rw[if_pos e];subst e;exact Kz _ _
  rw[if_neg e];exact Hd e _
 rw[if_neg hv];have hne:¬m=nm:=by
  intro e;subst e;rw[Ld hn]at hv;exact hv (by decide)
 show Cm nm (m::Av m::r)=_
 rw[Hd hne];by_cases e:Av m=nm
 .rw[if_pos e];subst e;exact Kz _ _
 rw[if_neg e];exact Hd e _
theorem bZ{ms:List BA}{nm:BA}(hn:P.nameOk nm=true)(hall:∀(j:Nat) (t:BA),ms[j]?=some t->Eb t=true):∀n,Cm nm (Db ms n)=Lx ms nm n
 |0=>rfl
 | n+1=>by
  cases h:ms[n]? with
  |none=>simp only[Db,Lx,h,Nat.add_zero];exact bZ hn hall n
  |some t =>
   simp only[Db,Lx,h];rw[iL (hall n t h) hn,bZ hn hall n]
theorem cS(ms:List BA)(nm:BA):∀n k,k<=n->Lx ms nm k<=Lx ms nm n
 |0,k,h=>by rw[Nat.le_zero.1 h];exact Nat.le_refl _
 |n+1,k,h=>by
  by_cases e:k=n+1
  .subst e;exact Nat.le_refl _
  refine lT (cS ms nm n k (by omega)) ?_;simp only[Lx];omega
theorem AB{ms:List BA}{nm s t:BA}{j k n:Nat}(hjk:j<k)(hkn:k<n)(hj:ms[j]?=some s)(hk:ms[k]?=some t)(es:Av s=nm)(et:Av t=nm):2<=Lx ms nm n:=by
 have h1:1<=Lx ms nm (j+1):=by simp only[Lx,hj,es,if_true];omega
 have h2:=cS ms nm k (j+1) (by omega);have h3:Lx ms nm (k+1)=Lx ms nm k+1:=by simp only[Lx,hk,et,if_true]
 have h4:=cS ms nm n (k+1) (by omega);omega
theorem tU{ms:List BA}{nm:BA}{k:Nat}(h:∀j t,j≠k->ms[j]?=some t->Av t≠nm):∀n,Lx ms nm n<=if k<n then 1 else 0
 |0=>by simp[Lx]
 | n+1=>by
  have ih:=tU h n;simp only[Lx]
  cases hm:ms[n]? with
  |none =>
   show Lx ms nm n+0<=_
   split at ih<;>split<;>omega
  | some t =>
   show Lx ms nm n+(if Av t=nm then 1 else 0)<=_
   by_cases e:n=k
   .subst e
    rw[if_neg (Nat.lt_irrefl _)]at ih;rw[if_pos (Nat.lt_succ_self _)]
    split<;>omega
   rw[if_neg (h n t e hm)]
   split at ih<;>split<;>omega
theorem Ju{ms:List BA}{nm:BA}:∀k,Da ms nm k=true↔∀j t,j<k->ms[j]?=some t->Av t≠nm
 |0=>by simp[Da]
 | k+1=>by
  have ih:=Ju (ms:=ms) (nm:=nm) k;simp only[Da,Bool.and_eq_true,ih];constructor
  .rintro⟨h1,h2⟩j t hj ht
   by_cases e:j=k
   .subst e
    rw[ht]at h2;simpa using h2
   exact h1 j t (by omega) ht
  intro h;refine⟨λj t hj ht=>h j t (by omega) ht,?_⟩
  cases hm:ms[k]? with
  |none=>rfl
  |some t=>simpa using h k t (by omega) hm
theorem Wg{ms:List BA}:∀n,Oo ms n=true↔∀k,k<n->Mx ms k=true
 |0=>by simp[Oo]
 | n+1=>by
  simp only[Oo,Bool.and_eq_true,Wg n];constructor
  .rintro⟨h1,h2⟩k hk
   by_cases e:k=n
   .subst e;exact h2
   exact h1 k (by omega)
  intro h;exact⟨λk hk=>h k (by omega),h n (by omega)⟩
theorem eW{ms:List BA}:∀n,Pd ms n=true↔∀k,k<n->Lw ms k=true
 |0=>by simp[Pd]
 | n+1=>by
  simp only[Pd,Bool.and_eq_true,eW n];constructor
  .rintro⟨h1,h2⟩k hk
   by_cases e:k=n
   .subst e;exact h2
   exact h1 k (by omega)
  intro h;exact⟨λk hk=>h k (by omega),h n (by omega)⟩
def CB(ms:List BA)(k:Nat):Prop:=∀j m t,k=j+1->ms[k]?=some m->ms[j]?=some t->Op.bytesLess t.toList m.toList=true
theorem Wq{ms:List BA}{k:Nat}{m:BA}(hk:ms[k]?=some m):Mx ms k=true↔Eb m=true/\CB ms k/\Cm (Av m) (Db ms ms.length)<=1:=by
 cases k with
 | zero =>
  simp only[Mx,hk,Bool.and_eq_true,decide_eq_true_eq];constructor
  .rintro⟨h1,h2⟩
   exact⟨h1,λj _ _ h=>by omega,h2⟩
  rintro⟨h1,_,h2⟩;exact⟨h1,h2⟩
 | succ j =>
  have hlt:j+1<ms.length:=(List.getElem?_eq_some_iff.mp hk).1;have ht:ms[j]?=some ms[j]:=gE (by omega);simp only[Mx,hk,ht,Bool.and_eq_true,decide_eq_true_eq];constructor
  .rintro⟨⟨h1,h2⟩,h3⟩
   refine⟨h1,λi a b hi ha hb=>?_,h3⟩;have:i=j:=by omega
   subst this;rw[hk]at ha;rw[ht]at hb;cases ha
   cases hb
   exact h2
  rintro⟨h1,h2,h3⟩;exact⟨⟨h1,h2 j m ms[j] rfl hk ht⟩,h3⟩
theorem Pb{ms:List BA}{k:Nat}{m:BA}(hk:ms[k]?=some m):Lw ms k=true↔Eb m=true/\CB ms k/\Da ms (Av m) k=true:=by
 cases k with
 | zero =>
  simp only[Lw,hk,Da];constructor
  .intro h1
   exact⟨h1,λj _ _ h=>by omega,trivial⟩
  rintro⟨h1,_,_⟩;exact h1
 | succ j =>
  have hlt:j+1<ms.length:=(List.getElem?_eq_some_iff.mp hk).1;have ht:ms[j]?=some ms[j]:=gE (by omega);simp only[Lw,hk,ht,Bool.and_eq_true];constructor
  .rintro⟨⟨⟨h1,h2⟩,_⟩,h3⟩
   refine⟨h1,λi a b hi ha hb=>?_,h3⟩;have:i=j:=by omega
   subst this;rw[hk]at ha;rw[ht]at hb;cases ha
   cases hb
   exact h2
  rintro⟨h1,h2,h3⟩;refine⟨⟨⟨h1,h2 j m ms[j] rfl hk ht⟩,?_⟩,h3⟩;have:=(Ju _).1 h3 j ms[j] (by omega) ht;simpa using λe=>this e.symm
theorem rK(ms:List BA):Hk ms=Oh ms:=by
 unfold Hk Oh
 congr 1
 rw[Bool.eq_iff_iff,Wg,eW];have get:∀k,k<ms.length->∃m,ms[k]?=some m:=λk hk=>⟨ms[k],gE hk⟩
 constructor
 .intro h k hk
  obtain⟨m,hm⟩:=get k hk;have hall:∀(j:Nat)(t:BA),ms[j]?=some t->Eb t=true:=λj t ht=>((Wq ht).1 (h j (List.getElem?_eq_some_iff.mp ht).1)).1
  obtain⟨h1,h2,h3⟩:=(Wq hm).1 (h k hk);refine(Pb hm).2 ⟨h1,h2,(Ju _).2 λj t hj ht e=>?_⟩;rw[bZ (Rc h1) hall]at h3;have:=AB hj hk ht hm e rfl;omega
 intro h k hk;obtain⟨m,hm⟩:=get k hk;have hall:∀(j:Nat)(t:BA),ms[j]?=some t->Eb t=true:=λj t ht=>((Pb ht).1 (h j (List.getElem?_eq_some_iff.mp ht).1)).1
 obtain⟨h1,h2,h3⟩:=(Pb hm).1 (h k hk);refine(Wq hm).2 ⟨h1,h2,?_⟩;rw[bZ (Rc h1) hall];refine lT (tU (k:=k) (λj t hjk ht e=>?_) _) (by split<;>omega);rcases Nat.lt_or_gt_of_ne hjk with hl|hg
 .exact(Ju _).1 h3 j t hl ht e
 have hj:j<ms.length:=(List.getElem?_eq_some_iff.mp ht).1;exact(Ju _).1 ((Pb ht).1 (h j hj)).2.2 k m hg hm e.symm
theorem Yl{ns:List BA}:∀n,Cq ns n=true↔∀k,k<n->Gm ns k=true
 |0=>by simp[Cq]
 | n+1=>by
  simp only[Cq,Bool.and_eq_true,Yl n];constructor
  .rintro⟨h1,h2⟩k hk
   by_cases e:k=n
   .subst e;exact h2
   exact h1 k (by omega)
  intro h;exact⟨λk hk=>h k (by omega),h n (by omega)⟩
theorem Zm{f:Nat->Bool}:∀n,Ec f n=true↔∀k,k<n->f k=true
 |0=>by simp[Ec]
 | n+1=>by
  simp only[Ec,Bool.and_eq_true,Zm n];constructor
  .rintro⟨h1,h2⟩k hk
   by_cases e:k=n
   .subst e;exact h2
   exact h1 k (by omega)
  intro h;exact⟨λk hk=>h k (by omega),h n (by omega)⟩
theorem Zi{ns:List BA}{k:Nat}{s:BA}(hk:ns[k]?=some s):Gm ns k=true↔P.nameOk s=true/\Im ns k=true:=by
 cases k with
 |zero=>simp only[Gm,hk,Im,and_true]
 |succ j =>
  have hlt:j+1<ns.length:=(List.getElem?_eq_some_iff.mp hk).1;have ht:ns[j]?=some ns[j]:=gE (by omega);simp only[Gm,hk,ht,Im,Bool.and_eq_true]
theorem Ln{α:Type}(f:α->BA)(xs:List α):Cq (xs.map f) xs.length=true↔∀(k:Nat)(y:α),xs[k]?=some y->P.nameOk (f y)=true/\Im (xs.map f) k=true:=by
 rw[Yl];constructor
 .intro h k y hy
  exact(Zi (by rw[List.getElem?_map,hy];rfl)).1 (h k (List.getElem?_eq_some_iff.mp hy).1)
 intro h k hk;have hy:xs[k]?=some xs[k]:=gE hk;exact(Zi (by rw[List.getElem?_map,hy];rfl)).2 (h k _ hy)
theorem Hr{α:Type}(f:α->Bool)(xs:List α):xs.all f=true↔∀(k:Nat)(y:α),xs[k]?=some y->f y=true:=by
 rw[List.all_eq_true];constructor
 .intro h k y hy
  exact h y (List.mem_of_getElem? hy)
 intro h y hy;obtain⟨j,hj,e⟩:=List.mem_iff_getElem.mp hy;exact h j y (by rw[gE hj,e])
theorem Qp(n a b:Int):inB n a b=inR n a b:=by
 unfold inB inR;rw[Bool.eq_iff_iff];simp
theorem uI:Pv=Gf:=by
 funext l;unfold Pv Gf;rw[Qp]
theorem aF(y:Cpy):Sm y=true↔P.nameOk y.name=true/\P.nameOk y.service=true/\Cj y=true:=by
 unfold Sm Ej Cj Dv;simp only[Qp,uI,Bool.and_eq_true];constructor
 .rintro⟨h1,h2,h3,h4,h5,h6,⟨h7,h8,h9,h10,h11⟩,h12⟩
  exact⟨h1,h2,⟨⟨⟨⟨⟨⟨⟨h3,h4⟩,h5⟩,h6⟩,h7⟩,h8,h12⟩,h9⟩,h10⟩,h11⟩
 rintro⟨h1,h2,⟨⟨⟨⟨⟨⟨⟨h3,h4⟩,h5⟩,h6⟩,h7⟩,h8,h12⟩,h9⟩,h10⟩,h11⟩;exact⟨h1,h2,h3,h4,h5,h6,⟨h7,h8,h9,h10,h11⟩,h12⟩
theorem Uy(y:Brt):Mg y=true↔P.nameOk y.name=true/\Gk y=true:=by
 unfold Mg Gk;simp only[Qp,<-rK,Bool.and_eq_true];constructor
 .rintro⟨h1,h2,h3,h4,h5⟩
  exact⟨h1,⟨⟨h2,h4⟩,h5⟩,h3⟩
 rintro⟨h1,⟨⟨h2,h4⟩,h5⟩,h3⟩;exact⟨h1,h2,h3,h4,h5⟩
theorem mH(bs:List Svc)(s:BA):Rm bs s<0↔Ar (bs.map (·.name)) s bs.length=none:=by
 rw[Dq];unfold Rm
 cases h:bs.findIdx? (λb=>decide (b.name=s))with
 | none =>
  rw[List.findIdx?_eq_none_iff]at h;constructor
  .intro _ j hj e
   rw[List.getElem?_map,gE hj]at e;simp at e;have:=h bs[j] (List.getElem_mem hj);simp at this;exact this e
  intro _;decide
 | some k =>
  rw[List.findIdx?_eq_some_iff_getElem]at h;obtain⟨hk,h1,_⟩:=h;constructor
  .intro e
   simp at e;omega
  intro e;refine absurd ?_ (e k hk);rw[List.getElem?_map,gE hk];simpa using h1
theorem eM{α:Type}{o:Option α}:o.isSome=true↔¬o=none:=by cases o<;>simp
theorem oI{bs:List BA}{s:BA}{n:Nat}(h:¬Ar bs s n=none):∃j,j<n/\bs[j]?=some s:=by
 rw[Dq]at h;exact Classical.byContradiction λhc=>h λj hj e=>hc ⟨j,hj,e⟩
theorem cD(cs:List Cpy)(s:BA):∀k,k<=1048576->(Bd cs s (-1) k).1=(Gj cs s k:Nat)
 |0,_=>rfl
 | k+1,hk=>by
  have ih:=cD cs s k (by omega);have hle:=iD cs s k;unfold Bd Gj
  cases h:cs[k]? with
  |none=>exact ih
  | some c =>
   by_cases e:c.at_=s
   .simp only[e,if_true,true_and]
    rw[if_pos (by omega),ih];show wrap64 _=_
    rw[show wrap64 (((Gj cs s k:Nat):Int)+1)=((Gj cs s k:Nat):Int)+1 from by unfold wrap64;omega];omega
   simp only[e,if_false,false_and];exact ih
theorem Rp{s:BA}:s.size=0↔s=⟨#[]⟩ :=
 ⟨λe=>ByteArray.ext (Array.eq_empty_of_size_eq_zero e),λe=>by subst e;rfl⟩
theorem Gx{s:BA}(h:P.nameOk s=true):¬s=⟨#[]⟩:=by
 intro e;subst e;revert h
 decide
theorem xY{bs:List Brt}{k:Nat}{y:Brt}(h:bs[k]?=some y):¬He bs y.name<0:=by
 rw[bR,Dq];intro hc;exact hc k (List.getElem?_eq_some_iff.mp h).1 (by rw[List.getElem?_map,h];rfl)
theorem mE{x:Flt}{k:Nat}{y:Brt}(h:x.berths[k]?=some y)(hn:P.nameOk y.name=true):Md x y.name=(Bd x.copies y.name (-1) x.copies.length).2:=by
 unfold Md Fj;rw[if_neg (xY h),if_neg (Gx hn)]
theorem sN(x:Flt)(l3:x.copies.length<=1048576):Bb x=Uu x:=by
 unfold Bb Uu
 congr 1
 rw[Bool.eq_iff_iff];simp only[Bool.and_eq_true,En,Ln,Cc,Fd,Br,De,Hr,Zm];constructor
 .rintro⟨⟨⟨ob,os⟩,oc⟩,hb,hs,hc,hst⟩
  refine⟨λk hk=>?_,λk hk=>?_,λk hk=>?_⟩
  .have hy:x.services[k]?=some x.services[k]:=gE hk
   simp only[Gr,hy,Bool.and_eq_true,Qp];exact⟨(os k _ hy).1,(os k _ hy).2,hs k _ hy⟩
  .have hy:x.copies[k]?=some x.copies[k]:=gE hk
   have h1:=hc k _ hy;simp only[Gn,Bool.and_eq_true,Bool.or_eq_true,decide_eq_true_eq,eM]at h1;obtain⟨⟨h2,h3⟩,h4⟩:=h1;simp only[Gi,hy,Bool.and_eq_true,Bool.or_eq_true,decide_eq_true_eq,Bool.not_eq_true',decide_eq_false_iff_not,aF];obtain⟨j,hj,e⟩:=oI h2;have hjs:x.services[j]?=some x.services[j]:=gE hj;have hsn:x.services[j].name=x.copies[k].service:=by
    rw[List.getElem?_map,hjs]at e;simpa using e
   refine⟨⟨(oc k _ hy).1,by rw[<-hsn];exact(os j _ hjs).1,h4⟩,(oc k _ hy).2,by rw[mH];exact h2,?_⟩;rcases h3 with h3|h3
   .exact Or.inr (by rw[bR];exact h3)
   exact Or.inl (Rp.1 h3)
  have hy:x.berths[k]?=some x.berths[k]:=gE hk;have h1:=hst k _ hy;simp only[Jb,Bool.and_eq_true,decide_eq_true_eq]at h1;obtain⟨⟨h2,h3⟩,h4⟩:=h1;simp only[Fo,hy,Bool.and_eq_true,Bool.not_eq_true',decide_eq_false_iff_not,Uy];rw[mE hy (ob k _ hy).1];rw[cD _ _ _ l3]at h2;exact⟨⟨(ob k _ hy).1,hb k _ hy⟩,(ob k _ hy).2,by omega,by omega,by omega⟩
 rintro⟨hs,hc,hb⟩;have hs':∀(k:Nat)(y:Svc),x.services[k]?=some y->P.nameOk y.name=true/\Im (x.services.map (·.name)) k=true/\inR y.spare 0 60=true:=by
  intro k y hy;have:=hs k (List.getElem?_eq_some_iff.mp hy).1;simpa only[Gr,hy,Bool.and_eq_true,Qp]using this
 have hc':∀(k:Nat)(y:Cpy),x.copies[k]?=some y->(P.nameOk y.name=true/\P.nameOk y.service=true/\Cj y=true)/\Im (x.copies.map (·.name)) k=true/\¬Rm x.services y.service<0/\(y.at_=⟨#[]⟩\/¬He x.berths y.at_<0):=by
  intro k y hy;have:=hc k (List.getElem?_eq_some_iff.mp hy).1;simpa only[Gi,hy,Bool.and_eq_true,Bool.or_eq_true,decide_eq_true_eq,Bool.not_eq_true',decide_eq_false_iff_not,aF]using this
 have hb':∀(k:Nat)(y:Brt),x.berths[k]?=some y->(P.nameOk y.name=true/\Gk y=true)/\Im (x.berths.map (·.name)) k=true/\¬y.room<(Md x y.name).1/\¬y.hold<(Md x y.name).2/\¬10<Gj x.copies y.name x.copies.length:=by
  intro k y hy;have:=hb k (List.getElem?_eq_some_iff.mp hy).1;simpa only[Fo,hy,Bool.and_eq_true,Bool.not_eq_true',decide_eq_false_iff_not,Uy]using this
 refine⟨⟨⟨λk y hy=>⟨(hb' k y hy).1.1,(hb' k y hy).2.1⟩,λk y hy=>⟨(hs' k y hy).1,(hs' k y hy).2.1⟩⟩,λk y hy=>⟨(hc' k y hy).1.1,(hc' k y hy).2.1⟩⟩,λk y hy=>(hb' k y hy).1.2,λk y hy=>(hs' k y hy).2.2,λk y hy=>?_,λk y hy=>?_⟩
 .obtain⟨⟨_,_,h4⟩,_,h2,h3⟩:=hc' k y hy
  simp only[Gn,Bool.and_eq_true,Bool.or_eq_true,decide_eq_true_eq,eM];rw[mH]at h2;refine⟨⟨h2,?_⟩,h4⟩;rcases h3 with h3|h3
  .exact Or.inr (Rp.2 h3)
  exact Or.inl (by rw[bR]at h3;exact h3)
 obtain⟨⟨hn,_⟩,_,h1,h2,h3⟩:=hb' k y hy;rw[mE hy hn]at h1 h2;simp only[Jb,Bool.and_eq_true,decide_eq_true_eq];rw[cD _ _ _ l3];exact⟨⟨by omega,by omega⟩,by omega⟩
def Qq(bs:List Cpy)(s:BA):Int:=match bs.findIdx? (λb=>decide (b.name=s))with
 |some k=>k
 |none=>-1
theorem Tu{bs:List Cpy}{s:BA}{k:Nat}{b:Cpy}(hk:bs[k]?=some b)(h:b.name=s)(ho:∀j b,j<k->bs[j]?=some b->b.name≠s):Qq bs s=k:=by
 have:bs.findIdx? (λb=>decide (b.name=s))=some k:=by
  rw[List.findIdx?_eq_some_iff_getElem];have hlt:=Af hk;rw[gE hlt]at hk;injection hk with hk;refine⟨hlt,by simp[hk,h],λj hj=>?_⟩;have:=ho j bs[j] hj (gE (by omega));simpa using this
 simp[Qq,this]
theorem qL{bs:List Cpy}{s:BA}(ho:∀j b,j<bs.length->bs[j]?=some b->b.name≠s):Qq bs s=-1:=by
 have:bs.findIdx? (λb=>decide (b.name=s))=none:=by
  rw[List.findIdx?_eq_none_iff];intro b hb;obtain⟨j,hj⟩:=List.getElem?_of_mem hb;simpa using ho j b (Af hj) hj
 simp[Qq,this]
theorem Xj(x:Flt)(a1:OA)(c1:Nat)(a2:OA)(c2:Nat)(a3:OA)(c3:Nat)(lo:Nat)(s:BA)(w:World)(n3:sC lo w a3 x.copies)(hl:x.copies.length<=1048576) :
  Calls prog 20 #[.agg (ffA x a1 c1 a2 c2 a3 c3),Y s] w (Rt (X (Qq x.copies s)) w):=by
 have HI:=iH n3;clear n3
 try unfold ffA
 generalize hbs:x.copies=bs at *;clear hbs;go_enter func20,ntmps20
 go_wp2
 go_loopw [5] (λi wr=>∃k:Nat,k<=bs.length/\i=X k/\wr.cell? (E w.heap.size 3)=some (.slice a3 bs.length c3)/\Hid (∀j b,j<k->bs[j]?=some b->b.name≠s)/\bW w wr) (λi _=>bs.length-(intOf i).toNat)
 case atStart=>exact⟨0,zL,rfl,by simp,λj b h=>by omega,by go_grown⟩
 obtain⟨k,hk,rfl,hcell,ho,hbel⟩:=hrel;by_cases hlt:k<bs.length
 .obtain⟨x,hx⟩:=gXe hlt
  obtain⟨b,o,rfl,_,_,hc⟩:=(HI.out.below CpyC.holds hbel nL).at hx;obtain⟨a9,c9,q0,q1,q2,q3,q4,q5,q6,q7,q8,q9,q10,q11,z0,z1,z2,z3,z4,z5,n9⟩:=hc;simp only[Nat.add_zero]at q0;have HX:=iH hx;clear hx q1 q2 q3 q4 q5 q6 q7 q8 q9 q10 q11 z0 z1 z2 z3 z4 z5 n9;by_cases h:x.name=s
  .have HZ:Hid (Qq bs s=k):=Tu HX h ho.out
   have ht:=Bm h;clear h
   go_wp2
   go_ret;exact⟨Al HZ.out.symm,hbel⟩
  have ht:=Bn h
  go_wp2
  go_roundw
  case rel =>
   refine⟨k+1,by omega,by go_num,hcell,?_,hbel⟩;intro j y hj hy;by_cases e:j=k
   .subst e
    rw[HX.out]at hy;cases hy
    exact h
   exact ho.out j y (by omega) hy
  simp[intOf];omega
 have hke:k=bs.length:=by omega
 have HZ:Hid (Qq bs s=-1):=qL (hke▸ho.out)
 go_wp2
 go_ret;exact⟨Al HZ.out.symm,hbel⟩
def IntC:Eh Int:=λ_ _ f x=>f 0=some (X x)
theorem IntC.holds:Eu IntC 1:=λ_ _ _ _ f g x h _ _ c=>(h 0 (by omega)).trans c
theorem Gq{ns:List BA}{s:BA}:∀{n k:Nat},Ar ns s n=some k->k<n/\ns[k]?=some s
 |0,k,h=>by simp[Ar]at h
 | n+1,k,h=>by
  unfold Ar at h;by_cases e:ns[n]?=some s
  .rw[if_pos e]at h
   cases h
   exact⟨by omega,e⟩
  rw[if_neg e]at h;have:=Gq h;exact⟨by omega,this.2⟩
theorem Fl{α:Type}{f:α->BA}{xs:List α}{k:Nat}{y:α}(h:xs[k]?=some y):(xs.map f)[k]?=some (f y):=by
 rw[List.getElem?_map,h];rfl
theorem Tx{α:Type}{f:α->BA}{xs:List α}{k:Nat}{s:BA}(h:(xs.map f)[k]?=some s):∃y,xs[k]?=some y/\f y=s:=by
 rw[List.getElem?_map]at h
 cases e:xs[k]? with
 |none=>rw[e]at h;cases h
 |some y=>rw[e]at h;cases h;exact⟨y,rfl,rfl⟩
def Fc(f:Nat->Bool):Nat->Nat
 |0=>0
 |k+1=>Fc f k+(if f k then 1 else 0)
theorem Uh(f:Nat->Bool):∀n,Fc f n<=n
 |0=>Nat.le_refl _
 |n+1=>by
  have:=Uh f n;unfold Fc
  split<;>omega
theorem Ks{f:Nat->Bool}{k:Nat}(h:f k=true):Fc f (k+1)=Fc f k+1:=by
 unfold Fc;rw[if_pos h];cases k<;>rfl
theorem Cw{f:Nat->Bool}{k:Nat}(h:f k=false):Fc f (k+1)=Fc f k:=by
 unfold Fc;rw[if_neg (by rw[h];decide)];cases k<;>rfl
abbrev svN(x:Flt):List BA:=x.services.map (·.name)
abbrev cpN(x:Flt):List BA:=x.copies.map (·.name)
def PlOk(ns gone:List BA)(k:Nat)(pl:List Nat):Prop:=pl.length=k/\∀j g,j<k->gone[j]?=some g->∃p,pl[j]?=some p/\Ar ns g ns.length=some p
def goS(x:Flt)(gone:List BA)(nm:BA)(i:Nat):Bool:=match gone[i]? with
 |some g=>match x.copies[(Qq x.copies g).toNat]? with
  |some c=>decide (c.service=nm)
  |none=>false
 |none=>false
def BW(x:Flt)(nm:BA)(i:Nat):Bool:=match x.copies[i]? with
 |some c=>decide (c.service=nm)&&decide (c.at_=⟨#[]⟩)
 |none=>false
def CL(x:Flt)(gone:List BA)(k:Nat):Prop:=(∀j g,j<k->gone[j]?=some g->0<=Qq x.copies g/\∃c,x.copies[(Qq x.copies g).toNat]?=some c/\¬c.at_=⟨#[]⟩)/\∀j s t,j+1<k->gone[j]?=some s->gone[j+1]?=some t->Op.bytesLess s.toList t.toList=true
def CM(x:Flt)(gone:List BA)(k:Nat):Prop:=∀s y,s<k->x.services[s]?=some y->0<Fc (goS x gone y.name) gone.length->((Fc (goS x gone y.name) gone.length:Nat):Int)<=y.spare-(Fc (BW x y.name) x.copies.length:Nat)
theorem cP:∀x,Op.bytesLess x x=false
 |[]=>rfl
 |a::x=>by simp[Op.bytesLess,cP x]
theorem uL:∀x y z,Op.bytesLess x y=true->Op.bytesLess y z=true->Op.bytesLess x z=true
 |_,_,[],_,h=>by simp[Op.bytesLess]at h
 |[],_,_::_,_,_=>rfl
 |a::x,[],c::z,h,_=>by simp[Op.bytesLess]at h
 | a::x,b::y,c::z,h1,h2=>by
  simp only[Op.bytesLess,Bool.or_eq_true,Bool.and_eq_true,decide_eq_true_eq,beq_iff_eq]at h1 h2⊢;rcases h1 with h1|⟨rfl,h1⟩
  .rcases h2 with h2|⟨rfl,h2⟩
   .exact Or.inl (UInt8.lt_trans h1 h2)
   exact Or.inl h1
  rcases h2 with h2|⟨rfl,h2⟩
  .exact Or.inl h2
  exact Or.inr ⟨rfl,uL x y z h1 h2⟩
def AscN(ns:List BA):Prop:=∀k s t,ns[k]?=some s->ns[k+1]?=some t->Op.bytesLess s.toList t.toList=true
theorem iY{α:Type}(f:α->BA)(xs:List α)(h:Cq (xs.map f) xs.length=true):AscN (xs.map f):=by
 intro k s t hs ht;have hlt:=Af ht;rw[List.length_map]at hlt;have h1:=((Ln f xs).1 h (k+1) _ (gE hlt)).2;simp only[Im,hs,ht]at h1;exact h1
theorem AscN.lt{ns:List BA}(h:AscN ns):∀d i s t,ns[i]?=some s->ns[i+d+1]?=some t->Op.bytesLess s.toList t.toList=true
 |0,i,s,t,hs,ht=>h i s t hs ht
 |d+1,i,s,t,hs,ht=>by
  have hlt:=Af ht;have hu:ns[i+d+1]?=some ns[i+d+1]:=gE (by omega);exact uL _ _ _ (AscN.lt h d i s _ hs hu) (h (i+d+1) _ t hu ht)
theorem AscN.less{ns:List BA}(h:AscN ns){i j:Nat}{s t:BA}(hi:ns[i]?=some s)(hj:ns[j]?=some t)(hl:i<j):Op.bytesLess s.toList t.toList=true :=
 h.lt (j-i-1) i s t hi (by rw[show i+(j-i-1)+1=j by omega];exact hj)
theorem AscN.inj{ns:List BA}(h:AscN ns){i j:Nat}{s:BA}(hi:ns[i]?=some s)(hj:ns[j]?=some s):i=j:=by
 rcases Nat.lt_trichotomy i j with hl|hl|hl
 .have:=h.less hi hj hl
  rw[cP]at this;cases this
 .exact hl
 have:=h.less hj hi hl;rw[cP]at this;cases this
theorem AscN.last{ns:List BA}(h:AscN ns){s:BA}{n k:Nat}(hk:ns[k]?=some s)(hn:k<n):Ar ns s n=some k:=by
 cases e:Ar ns s n with
 |none=>exact absurd hk ((Dq ns s n).1 e k hn)
 |some j=>rw[h.inj (Gq e).2 hk]
theorem oP{cs:List Cpy}(h:AscN (cs.map (·.name))){s:BA}{k:Nat}(e:Ar (cs.map (·.name)) s cs.length=some k):Qq cs s=k/\∃c,cs[k]?=some c/\c.name=s:=by
 obtain⟨hk,hs⟩:=Gq e;obtain⟨c,hc,hn⟩:=Tx hs;refine⟨Tu hc hn λj b hj hb he=>?_,c,hc,hn⟩;have:=h.inj (Fl (f:=(·.name)) hb) (show _=some b.name by rw[he];exact hs);omega
theorem Bh{x:Flt}(h:Bb x=true):x.services.length<=30/\x.copies.length<=60/\AscN (svN x)/\AscN (cpN x)/\(∀(k:Nat)(y:Svc),x.services[k]?=some y->0<=y.spare/\y.spare<=60)/\∀(k:Nat)(c:Cpy),x.copies[k]?=some c->∃s,Ar (svN x) c.service x.services.length=some s:=by
 unfold Bb at h;simp only[Bool.and_eq_true,Dn,En,Fd,Br,Hr,decide_eq_true_eq]at h;obtain⟨⟨⟨_,h1⟩,h2⟩,⟨⟨_,h3⟩,h4⟩,_,h5,h6,_⟩:=h;refine⟨h1,h2,iY _ _ h3,iY _ _ h4,λk y hy=>?_,λk c hc=>?_⟩
 .have:=h5 k y hy
  simpa[inR]using this
 have:=h6 k c hc;simp only[Gn,Bool.and_eq_true]at this;exact Option.isSome_iff_exists.1 this.1.1
def Cu(bs:List Brt)(s:BA):BA:=if He bs s<0 then⟨#[]⟩else ((bs[(He bs s).toNat]?).map (·.zone)).getD ⟨#[]⟩
theorem fU{a b:BA}(h:a=b):Ending.returned (Y a)=.returned (Y b):=by rw[h]
theorem kK(bs:List Brt)(s:BA):-1<=He bs s/\He bs s<bs.length:=by
 unfold He
 split
 .rename_i i h
  have:=(List.findIdx?_eq_some_iff_findIdx_eq.1 h).1;omega
 omega
theorem Ig(x:Flt)(a1:OA)(c1:Nat)(a2:OA)(c2:Nat)(a3:OA)(c3:Nat)(lo:Nat)(s:BA)(w:World)(n1:sB lo w a1 x.berths)(hl:x.berths.length<=1048576) :
  Calls prog 123 #[.agg (ffA x a1 c1 a2 c2 a3 c3),Y s] w (Rt (Y (Cu x.berths s)) w):=by
 have HI:=iH n1;clear n1;go_enter func123,ntmps123;go_wp2_with fail;have hal:=(Below.refl _ w).alloc nL (Obj.cells (ffA x a1 c1 a2 c2 a3 c3) 32);refine(Ma x a1 c1 a2 c2 a3 c3 lo s _ (HI.out.below BrtC.holds hal nL) hl).mono ?_;rintro e w1⟨rfl,hb1⟩;have e1:w1.cell? (E w.heap.size 1)=some (.slice a1 x.berths.length c1):=(hb1.cell (p:=(E w.heap.size 1)) (by simp)).trans (by simp);have HB1:=iH (qTr hal hb1);have HZ:Hid (Cu x.berths s=if He x.berths s<0 then⟨#[]⟩else ((x.berths[(He x.berths s).toNat]?).map (·.zone)).getD ⟨#[]⟩):=rfl;have hbd:=kK x.berths s;clear hb1 hal;generalize He x.berths s=I at *;by_cases h0:I<0
 .rw[if_pos h0]at HZ
  go_wp2
  go_ret;exact⟨fU HZ.out.symm,HB1⟩
 rw[if_neg h0]at HZ;obtain⟨k,rfl⟩:∃k:Nat,I=k:=⟨I.toNat,by omega⟩;have hk:k<x.berths.length:=by omega
 obtain⟨b,hb⟩:=gXe hk;obtain⟨bb,o,rfl,_,_,hc⟩:=(HI.out.below BrtC.holds HB1 nL).at hb;obtain⟨a9,c9,q0,q1,_,_,_,_,_,_,_⟩:=hc;have HV:Hid (Cu x.berths s=b.zone):=by show _=_;rw[HZ.out,Int.toNat_natCast,hb];rfl
 clear hb q0 HZ
 go_wp2
 go_ret;exact⟨fU HV.out.symm,HB1⟩
abbrev brN(x:Flt):List BA:=x.berths.map (·.name)
theorem Au{x:Flt}(h:Bb x=true):x.berths.length<=12/\AscN (brN x)/\(∀(k:Nat)(b:Brt),x.berths[k]?=some b->P.nameOk b.name=true/\P.nameOk b.zone=true/\(0<=b.room/\b.room<=1000)/\Hk b.marks=true)/\∀(k:Nat)(c:Cpy),x.copies[k]?=some c->(0<=c.room/\c.room<=1000)/\Dv c.likes=true/\(c.at_=⟨#[]⟩\/∃s,Ar (brN x) c.at_ x.berths.length=some s):=by
 unfold Bb at h;simp only[Bool.and_eq_true,Dn,En,Cc,Br,Hr,decide_eq_true_eq]at h;obtain⟨⟨⟨h0,_⟩,_⟩,⟨⟨h1,_⟩,_⟩,h2,_,h3,_⟩:=h;refine⟨h0,iY _ _ h1,λk b hb=>?_,λk c hc=>?_⟩
 .have h4:=h2 k b hb
  simp only[Gk,Bool.and_eq_true,inR,decide_eq_true_eq]at h4;exact⟨((Ln _ _).1 h1 k b hb).1,h4.1.1.1,h4.1.1.2,h4.2⟩
 have h4:=h3 k c hc;simp only[Gn,Cj,Bool.and_eq_true,Bool.or_eq_true,inR,decide_eq_true_eq]at h4;obtain⟨⟨_,h5⟩,h6⟩:=h4;refine⟨h6.1.1.1.1.1.1.2,h6.1.1.1.2,?_⟩;rcases h5 with h5|h5
 .exact Or.inr (Option.isSome_iff_exists.1 h5)
 exact Or.inl (Rp.1 h5)
theorem aP{x:Flt}(hb:∀(k:Nat) (b:Brt),x.berths[k]?=some b->P.nameOk b.name=true/\P.nameOk b.zone=true/\(0<=b.room/\b.room<=1000)/\Hk b.marks=true):Ar (brN x) ⟨#[]⟩ x.berths.length=none:=by
 rw[Dq];intro j hj e;obtain⟨b,h1,h2⟩:=Tx e;exact Gx (hb j b h1).1 h2
theorem bY{x:Flt}(ha:AscN (brN x)){s:BA}{k:Nat}(h:Ar (brN x) s x.berths.length=some k):∃b,x.berths[k]?=some b/\b.name=s/\Cu x.berths s=b.zone:=by
 obtain⟨hk,hs⟩:=Gq h;obtain⟨b,h1,h2⟩:=Tx hs;have hi:He x.berths s=k:=mI h1 h2 λj b' hj hb' he=>by
  have:=ha.inj (Fl (f:=(·.name)) hb') (show _=some b'.name by rw[he];exact hs);omega
 refine⟨b,h1,h2,?_⟩;unfold Cu;rw[hi,if_neg (by omega),Int.toNat_natCast,h1];rfl
def Tc(x:Flt)(ci:Nat)(sv nm:BA)(i:Nat):Bool:=match x.copies[i]? with
 |some c=>decide (i≠ci)&&decide (c.service=sv)&&decide (c.at_=nm)
 |none=>false
def znF(x:Flt)(ci:Nat)(sv z:BA)(i:Nat):Bool:=match x.copies[i]? with
 |some c=>decide (i≠ci)&&decide (c.service=sv)&&decide (¬c.at_=⟨#[]⟩)&&decide (Cu x.berths c.at_=z)
 |none=>false
def Bl(x:Flt)(ci:Nat)(nm:BA):Nat->Int
 |0=>0
 |k+1=>Bl x ci nm k+(match x.copies[k]? with
  |some c=>if c.at_=nm/\k≠ci then c.room else 0
  |none=>0)
theorem Ys{x:Flt}{ci k:Nat}{nm:BA}{c:Cpy}(hk:x.copies[k]?=some c)(h1:c.at_=nm)(h2:k≠ci):Bl x ci nm (k+1)=Bl x ci nm k+c.room:=by
 simp only[Bl,hk];rw[if_pos ⟨h1,h2⟩]
theorem Ij{x:Flt}{ci k:Nat}{nm:BA}{c:Cpy}(hk:x.copies[k]?=some c)(h:¬(c.at_=nm/\k≠ci)):Bl x ci nm (k+1)=Bl x ci nm k:=by
 simp only[Bl,hk];rw[if_neg h];omega
theorem Jt{x:Flt}(ci:Nat)(nm:BA)(hc:∀(k:Nat) (c:Cpy),x.copies[k]?=some c->0<=c.room/\c.room<=1000):∀k,0<=Bl x ci nm k/\Bl x ci nm k<=1000*k
 |0=>by simp[Bl]
 | k+1=>by
  have ih:=Jt ci nm hc k;simp only[Bl]
  cases h:x.copies[k]? with
  |none=>simp only;omega
  |some c =>
   have h1:=hc k c h;simp only
   split<;>omega
theorem Ph{x:Flt}(ci:Nat)(nm:BA)(hc:∀(k:Nat) (c:Cpy),x.copies[k]?=some c->0<=c.room/\c.room<=1000):∀k,k<=60->(Bd x.copies nm ci k).2.1=Bl x ci nm k
 |0,_=>rfl
 | k+1,hk=>by
  have ih:=Ph ci nm hc k (by omega);have hb:=Jt ci nm hc k;unfold Bd Bl
  cases h:x.copies[k]? with
  |none=>simp only;omega
  | some c =>
   have h1:=hc k c h;simp only;by_cases e:c.at_=nm/\k≠ci
   .rw[if_pos e,if_pos ⟨e.1,by omega⟩]
    simp only;rw[ih];unfold wrap64;omega
   rw[if_neg e,if_neg (λh=>e ⟨h.1,by omega⟩)];omega
def Ct(f:BA->Bool)(ls:List Lik):Nat->Int
 |0=>0
 |k+1=>Ct f ls k+(match ls[k]? with
  |some l=>if f l.select then l.weight else 0
  |none=>0)
theorem Ua{f:BA->Bool}{ls:List Lik}{k:Nat}{l:Lik}(hk:ls[k]?=some l)(h:f l.select=true):Ct f ls (k+1)=Ct f ls k+l.weight:=by
 simp only[Ct,hk];rw[if_pos h]
theorem Yw{f:BA->Bool}{ls:List Lik}{k:Nat}{l:Lik}(hk:ls[k]?=some l)(h:f l.select=false):Ct f ls (k+1)=Ct f ls k:=by
 simp only[Ct,hk];rw[if_neg (by rw[h];decide)];omega
theorem Sn{ls:List Lik}(h:Dv ls=true):ls.length<=5/\∀(k:Nat)(l:Lik),ls[k]?=some l->-9<=l.weight/\l.weight<=9:=by
 simp only[Dv,Bool.and_eq_true,Hr,decide_eq_true_eq]at h;refine⟨h.1,λk l hl=>?_⟩;have:=h.2 k l hl;simp only[Gf,Bool.and_eq_true,inR,decide_eq_true_eq]at this;exact this.2
theorem Rn{f:BA->Bool}{ls:List Lik}(h:∀(k:Nat) (l:Lik),ls[k]?=some l->-9<=l.weight/\l.weight<=9):∀k:Nat,-9*(k:Int)<=Ct f ls k/\Ct f ls k<=9*(k:Int)
 |0=>by simp[Ct]
 | k+1=>by
  have ih:=Rn (f:=f) h k;simp only[Ct]
  cases e:ls[k]? with
  |none=>simp only;omega
  |some l =>
   have h1:=h k l e;simp only
   split<;>omega
theorem Hm{x:Flt}{ci k:Nat}{sv z:BA}{c:Cpy}(hk:x.copies[k]?=some c)(h:¬(k≠ci/\c.service=sv/\(¬c.at_=⟨#[]⟩)/\Cu x.berths c.at_=z)):znF x ci sv z k=false:=by
 unfold znF;rw[hk];simp only[Bool.and_eq_false_iff,decide_eq_false_iff_not];by_cases h1:k≠ci
 .by_cases h2:c.service=sv
  .by_cases h3:¬c.at_=⟨#[]⟩
   .exact Or.inr (λh4=>h ⟨h1,h2,h3,h4⟩)
   exact Or.inl (Or.inr h3)
  exact Or.inl (Or.inl (Or.inr h2))
 exact Or.inl (Or.inl (Or.inl h1))
theorem Uf{x:Flt}{ci k:Nat}{sv z:BA}{c:Cpy}(hk:x.copies[k]?=some c)(h1:k≠ci)(h2:c.service=sv)(h3:¬c.at_=⟨#[]⟩)(h4:Cu x.berths c.at_=z):znF x ci sv z k=true:=by
 unfold znF;rw[hk];simp only[Bool.and_eq_true,decide_eq_true_eq];exact⟨⟨⟨h1,h2⟩,h3⟩,h4⟩
theorem Om{x:Flt}{ci k:Nat}{sv nm:BA}{c:Cpy}(hk:x.copies[k]?=some c)(h:¬(k≠ci/\c.service=sv/\c.at_=nm)):Tc x ci sv nm k=false:=by
 unfold Tc;rw[hk];simp only[Bool.and_eq_false_iff,decide_eq_false_iff_not];by_cases h1:k≠ci
 .by_cases h2:c.service=sv
  .exact Or.inr (λh4=>h ⟨h1,h2,h4⟩)
  exact Or.inl (Or.inr h2)
 exact Or.inl (Or.inl h1)
theorem mL{x:Flt}{ci k:Nat}{sv nm:BA}{c:Cpy}(hk:x.copies[k]?=some c)(h1:k≠ci)(h2:c.service=sv)(h4:c.at_=nm):Tc x ci sv nm k=true:=by
 unfold Tc;rw[hk];simp only[Bool.and_eq_true,decide_eq_true_eq];exact⟨⟨h1,h2⟩,h4⟩
theorem Co{s:BA}(h:P.nameOk s=true):s.size<=1000:=by
 unfold P.nameOk at h;simp only[Bool.and_eq_true,decide_eq_true_eq]at h;omega
theorem Kq{ms:List BA}(h:Hk ms=true):ms.length<=1000:=by
 unfold Hk at h;simp only[Bool.and_eq_true,decide_eq_true_eq]at h;omega
def BM(x:Flt)(cn bn:BA):Option (Nat×Nat):=if Bb x=true then(match Ar (cpN x) cn x.copies.length,Ar (brN x) bn x.berths.length with
 |some ci,some bi=>some (ci,bi)
 |_,_=>none)else none
end Go.Proofs.YthboopnmbglkjaaGreat
