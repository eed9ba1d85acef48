import Derived.Test.YthboopnmbglkjaaGreatJ18
set_option maxHeartbeats 8000000
namespace Go.Proofs.YthboopnmbglkjaaGreat
open Tryz
set_option maxRecDepth 100000
open Go.RowKit Tryz
def Oe(one:Bool)(nm vl:BA)(m:BA):Bool:=Eb m&&(decide (Av m=nm)&&(one||decide (Ff m=vl)))
def Eo(ms:List BA)(one:Bool)(nm vl:BA):Nat->Bool
 |0=>false
 |k+1=>Eo ms one nm vl k||(match ms[k]? with|some m=>Oe one nm vl m|none=>false)
def eR(ms:List BA)(one:Bool)(nm vl:BA):Bool:=Eo ms one nm vl ms.length
def Ce(ms:List BA):P.Tr->Bool
 |.nil=>true
 |.node b _ p l r =>
  if b=0 then true
  else if b=1 then eR ms true p.1 ⟨#[]⟩
  else if b=2 then eR ms false p.1 p.2
  else if b=3 then !Ce ms l
  else if b=4 then Ce ms l&&Ce ms r
  else Ce ms l||Ce ms r
theorem Ox{ms:List BA}{one:Bool}{nm vl:BA}{k:Nat}(h:Eo ms one nm vl k=true):∀n,k<=n->Eo ms one nm vl n=true
 |0,hn=>(by have:k=0:=(by omega);subst this;exact h)
 |n+1,hn=>by
  by_cases e:k=n+1
  .subst e;exact h
  rw[Eo,Ox h n (by omega)];rfl
theorem Xk{ms:List BA}{one:Bool}{nm vl:BA}{k:Nat}{m:BA}(hm:ms[k]?=some m):Eo ms one nm vl (k+1)=(Eo ms one nm vl k||Oe one nm vl m):=by
 rw[Eo,hm]
def Fx(ns:List P.Nd)(out:List (List Nat))(n cn co go g:Nat)(ms:List BA)(am:OA)(cm:Nat)(k:Nat)(t:P.Tr):Prop :=
 ∀(w:World),Nodes0 w g ns->KidsIn w go out->sX 0 w am ms ->
  Calls prog 174 #[.agg #[sP g 0 ns.length cn],sP go 0 n co,X (k:Int),.slice am ms.length cm] w λe w'=>e=.returned (.bool (Ce ms t))/\bW w w'
theorem eG(ns:List P.Nd)(out:List (List Nat))(n cn co go g:Nat)(ms:List BA)(am:OA)(cm:Nat)(k:Nat)(nd:P.Nd)(hnd:ns[k]?=some nd)(hk:nd.kind=0):Fx ns out n cn co go g ms am cm k P.nonT:=by
 intro w hN hK hM;have hkl:=P.getElem?_lt hnd;have hlt:=hN.1;have hml:ms.length<=maxLen:=hM.1;unfold maxLen at hml;have hNN:=iH hN;have hKK:=iH hK;have hMM:=iH hM;have q0:∀o1,(w.alloc o1).cell? (E g (k*4))=some (X 0):=λo1=>((Em ((Below.refl w.heap.size w).alloc nL o1)).1 _ _ hlt).trans (by rw[<-hk];exact(hN.2 k nd hnd).1)
 have q1:∀o1,(w.alloc o1).cell? (E g (k*4+1))=some (Y nd.name):=λo1=>((Em ((Below.refl w.heap.size w).alloc nL o1)).1 _ _ hlt).trans (hN.2 k nd hnd).2.1
 have q2:∀o1,(w.alloc o1).cell? (E g (k*4+2))=some (Y nd.value):=λo1=>((Em ((Below.refl w.heap.size w).alloc nL o1)).1 _ _ hlt).trans (hN.2 k nd hnd).2.2.1
 have q3:∀o1,(w.alloc o1).cell? (E g (k*4+3))=some (X nd.kids):=λo1=>((Em ((Below.refl w.heap.size w).alloc nL o1)).1 _ _ hlt).trans (hN.2 k nd hnd).2.2.2
 show Calls _ _ _ _ λe w'=>e=.returned (.bool true)/\_
 clear hN hK hnd hk hM;go_enter func174,ntmps174
 go_wp2
 go_ret;exact⟨rfl,by go_grown⟩
theorem jH(ns:List P.Nd)(out:List (List Nat))(n cn co go g:Nat)(ms:List BA)(am:OA)(cm:Nat)(k:Nat)(nd:P.Nd)(hnd:ns[k]?=some nd)(hk:nd.kind=1):Fx ns out n cn co go g ms am cm k (P.nmT nd.name):=by
 intro w hN hK hM;have hkl:=P.getElem?_lt hnd;have hlt:=hN.1;have hml:ms.length<=maxLen:=hM.1;unfold maxLen at hml;have hNN:=iH hN;have hKK:=iH hK;have hMM:=iH hM;have q0:∀o1,(w.alloc o1).cell? (E g (k*4))=some (X 1):=λo1=>((Em ((Below.refl w.heap.size w).alloc nL o1)).1 _ _ hlt).trans (by rw[<-hk];exact(hN.2 k nd hnd).1)
 have q1:∀o1,(w.alloc o1).cell? (E g (k*4+1))=some (Y nd.name):=λo1=>((Em ((Below.refl w.heap.size w).alloc nL o1)).1 _ _ hlt).trans (hN.2 k nd hnd).2.1
 have q2:∀o1,(w.alloc o1).cell? (E g (k*4+2))=some (Y nd.value):=λo1=>((Em ((Below.refl w.heap.size w).alloc nL o1)).1 _ _ hlt).trans (hN.2 k nd hnd).2.2.1
 have q3:∀o1,(w.alloc o1).cell? (E g (k*4+3))=some (X nd.kids):=λo1=>((Em ((Below.refl w.heap.size w).alloc nL o1)).1 _ _ hlt).trans (hN.2 k nd hnd).2.2.2
 show Calls _ _ _ _ λe w'=>e=.returned (.bool (eR ms true nd.name ⟨#[]⟩))/\_
 clear hN hK hnd hk hM;go_enter func174,ntmps174;go_wp2_with fail;have HB0:Hid (bW w ((w.alloc (Obj.cells #[sP g 0 ns.length cn] 174)).alloc (Obj.cells #[X 1,Y nd.name,Y nd.value,X nd.kids] 210))):=((Below.refl w.heap.size w).alloc nL _).alloc (by simp) _;have HM0:=iH (hMM.out.below StrC.holds HB0 nL);have hz0:((w.alloc (Obj.cells #[sP g 0 ns.length cn] 174)).alloc (Obj.cells #[X 1,Y nd.name,Y nd.value,X nd.kids] 210)).heap.size=w.heap.size+2:=by simp
 have c0:Hid (((w.alloc (Obj.cells #[sP g 0 ns.length cn] 174)).alloc (Obj.cells #[X 1,Y nd.name,Y nd.value,X nd.kids] 210)).cell? (E (w.heap.size+1) 0)=some (X 1)):=by show _=_;simp
 have c1:Hid (((w.alloc (Obj.cells #[sP g 0 ns.length cn] 174)).alloc (Obj.cells #[X 1,Y nd.name,Y nd.value,X nd.kids] 210)).cell? (E (w.heap.size+1) 1)=some (Y nd.name)):=by show _=_;simp
 have c2:Hid (((w.alloc (Obj.cells #[sP g 0 ns.length cn] 174)).alloc (Obj.cells #[X 1,Y nd.name,Y nd.value,X nd.kids] 210)).cell? (E (w.heap.size+1) 2)=some (Y nd.value)):=by show _=_;simp
 clear q0 q1 q2 q3 hNN hKK hMM;generalize((w.alloc (Obj.cells #[sP g 0 ns.length cn] 174)).alloc (Obj.cells #[X 1,Y nd.name,Y nd.value,X nd.kids] 210))=w0 at *;go_loopw [10] (λi wr=>∃j:Nat,j<=ms.length/\i=X j/\Hid (Eo ms true nd.name ⟨#[]⟩ j=false)/\Hid (bW w0 wr)) (λi _=>ms.length-(intOf i).toNat)
 case atStart=>exact⟨0,zL,rfl,rfl,Below.refl _ _⟩
 obtain⟨j,hj,rfl,hno,hbel⟩:=hrel;by_cases hlt2:j<ms.length
 .obtain⟨m,hm⟩:=gXe hlt2
  obtain⟨b,o,rfl,_,_,hc⟩:=(HM0.out.below StrC.holds hbel.out nL).at hm;obtain⟨q0,z0⟩:=hc;simp only[Nat.mul_one,Nat.add_zero]at q0;have HX:=iH hm;have HZ:=iH z0;clear hm z0;go_wp2_with fail;refine(Nb m _ HZ).mono ?_;rintro e w1⟨rfl,hb1⟩;have HB1:=qTH hbel hb1;have d0:w1.cell? (E (w.heap.size+1) 0)=some (X 1):=(HB1.out.cell (p:=(E (w.heap.size+1) 0)) (by rw[hz0];exact Nat.lt_succ_self _)).trans c0.out;have d1:w1.cell? (E (w.heap.size+1) 1)=some (Y nd.name):=(HB1.out.cell (p:=(E (w.heap.size+1) 1)) (by rw[hz0];exact Nat.lt_succ_self _)).trans c1.out;have d2:w1.cell? (E (w.heap.size+1) 2)=some (Y nd.value):=(HB1.out.cell (p:=(E (w.heap.size+1) 2)) (by rw[hz0];exact Nat.lt_succ_self _)).trans c2.out;have HST:Hid (Eo ms true nd.name ⟨#[]⟩ (j+1)=(Eo ms true nd.name ⟨#[]⟩ j||Oe true nd.name ⟨#[]⟩ m)):=Xk HX;clear hb1 hbel q0
  cases hmk:Eb m with
  |false =>
   have HN:Hid (Eo ms true nd.name ⟨#[]⟩ (j+1)=false):=by show _=_;rw[HST.out,hno.out,Oe,hmk];rfl
   clear hmk HST hno
   go_wp2
   go_roundw
   case rel=>exact⟨j+1,by omega,by go_num,HN,HB1⟩
   simp[intOf];omega
  | true =>
   have HH:Hid (Oe true nd.name ⟨#[]⟩ m=(decide (Av m=nd.name)&&(true||decide (Ff m=⟨#[]⟩)))):=by show _=_;rw[Oe,hmk];rfl
   clear hmk;generalize Av m=nm at *;generalize Ff m=vm at *;by_cases hne:nm=nd.name
   .have hte:=Bm hne
    have HT:Hid (true=eR ms true nd.name ⟨#[]⟩):=by
     refine Eq.symm (Ox (k:=j+1) ?_ _ (by omega));rw[HST.out,HH.out,decide_eq_true hne];cases Eo ms true nd.name ⟨#[]⟩ j<;>rfl
    clear HST hno HH hne
    go_wp2
    go_ret;exact⟨Ab HT,HB0.out.trans (HB1.out.mono HB0.out.size)⟩
   have hte:=Bn hne;have HN:Hid (Eo ms true nd.name ⟨#[]⟩ (j+1)=false):=by show _=_;rw[HST.out,hno.out,HH.out,decide_eq_false hne];rfl
   clear HST hno HH hne
   go_wp2
   go_roundw
   case rel=>exact⟨j+1,by omega,by go_num,HN,HB1⟩
   simp[intOf];omega
 have hke:j=ms.length:=by omega
 subst hke;have HF:Hid (false=eR ms true nd.name ⟨#[]⟩):=hno.out.symm;clear hno
 go_wp2
 go_ret;exact⟨Ab HF,HB0.out.trans (hbel.out.mono HB0.out.size)⟩
theorem kO(ns:List P.Nd)(out:List (List Nat))(n cn co go g:Nat)(ms:List BA)(am:OA)(cm:Nat)(k:Nat)(nd:P.Nd)(hnd:ns[k]?=some nd)(hk:nd.kind=2):Fx ns out n cn co go g ms am cm k (P.vlT nd.name nd.value):=by
 intro w hN hK hM;have hkl:=P.getElem?_lt hnd;have hlt:=hN.1;have hml:ms.length<=maxLen:=hM.1;unfold maxLen at hml;have hNN:=iH hN;have hKK:=iH hK;have hMM:=iH hM;have q0:∀o1,(w.alloc o1).cell? (E g (k*4))=some (X 2):=λo1=>((Em ((Below.refl w.heap.size w).alloc nL o1)).1 _ _ hlt).trans (by rw[<-hk];exact(hN.2 k nd hnd).1)
 have q1:∀o1,(w.alloc o1).cell? (E g (k*4+1))=some (Y nd.name):=λo1=>((Em ((Below.refl w.heap.size w).alloc nL o1)).1 _ _ hlt).trans (hN.2 k nd hnd).2.1
 have q2:∀o1,(w.alloc o1).cell? (E g (k*4+2))=some (Y nd.value):=λo1=>((Em ((Below.refl w.heap.size w).alloc nL o1)).1 _ _ hlt).trans (hN.2 k nd hnd).2.2.1
 have q3:∀o1,(w.alloc o1).cell? (E g (k*4+3))=some (X nd.kids):=λo1=>((Em ((Below.refl w.heap.size w).alloc nL o1)).1 _ _ hlt).trans (hN.2 k nd hnd).2.2.2
 show Calls _ _ _ _ λe w'=>e=.returned (.bool (eR ms false nd.name nd.value))/\_
 clear hN hK hnd hk hM;go_enter func174,ntmps174;go_wp2_with fail;have HB0:Hid (bW w ((w.alloc (Obj.cells #[sP g 0 ns.length cn] 174)).alloc (Obj.cells #[X 2,Y nd.name,Y nd.value,X nd.kids] 210))):=((Below.refl w.heap.size w).alloc nL _).alloc (by simp) _;have HM0:=iH (hMM.out.below StrC.holds HB0 nL);have hz0:((w.alloc (Obj.cells #[sP g 0 ns.length cn] 174)).alloc (Obj.cells #[X 2,Y nd.name,Y nd.value,X nd.kids] 210)).heap.size=w.heap.size+2:=by simp
 have c0:Hid (((w.alloc (Obj.cells #[sP g 0 ns.length cn] 174)).alloc (Obj.cells #[X 2,Y nd.name,Y nd.value,X nd.kids] 210)).cell? (E (w.heap.size+1) 0)=some (X 2)):=by show _=_;simp
 have c1:Hid (((w.alloc (Obj.cells #[sP g 0 ns.length cn] 174)).alloc (Obj.cells #[X 2,Y nd.name,Y nd.value,X nd.kids] 210)).cell? (E (w.heap.size+1) 1)=some (Y nd.name)):=by show _=_;simp
 have c2:Hid (((w.alloc (Obj.cells #[sP g 0 ns.length cn] 174)).alloc (Obj.cells #[X 2,Y nd.name,Y nd.value,X nd.kids] 210)).cell? (E (w.heap.size+1) 2)=some (Y nd.value)):=by show _=_;simp
 clear q0 q1 q2 q3 hNN hKK hMM;generalize((w.alloc (Obj.cells #[sP g 0 ns.length cn] 174)).alloc (Obj.cells #[X 2,Y nd.name,Y nd.value,X nd.kids] 210))=w0 at *;go_loopw [10] (λi wr=>∃j:Nat,j<=ms.length/\i=X j/\Hid (Eo ms false nd.name nd.value j=false)/\Hid (bW w0 wr)) (λi _=>ms.length-(intOf i).toNat)
 case atStart=>exact⟨0,zL,rfl,rfl,Below.refl _ _⟩
 obtain⟨j,hj,rfl,hno,hbel⟩:=hrel;by_cases hlt2:j<ms.length
 .obtain⟨m,hm⟩:=gXe hlt2
  obtain⟨b,o,rfl,_,_,hc⟩:=(HM0.out.below StrC.holds hbel.out nL).at hm;obtain⟨q0,z0⟩:=hc;simp only[Nat.mul_one,Nat.add_zero]at q0;have HX:=iH hm;have HZ:=iH z0;clear hm z0;go_wp2_with fail;refine(Nb m _ HZ).mono ?_;rintro e w1⟨rfl,hb1⟩;have HB1:=qTH hbel hb1;have d0:w1.cell? (E (w.heap.size+1) 0)=some (X 2):=(HB1.out.cell (p:=(E (w.heap.size+1) 0)) (by rw[hz0];exact Nat.lt_succ_self _)).trans c0.out;have d1:w1.cell? (E (w.heap.size+1) 1)=some (Y nd.name):=(HB1.out.cell (p:=(E (w.heap.size+1) 1)) (by rw[hz0];exact Nat.lt_succ_self _)).trans c1.out;have d2:w1.cell? (E (w.heap.size+1) 2)=some (Y nd.value):=(HB1.out.cell (p:=(E (w.heap.size+1) 2)) (by rw[hz0];exact Nat.lt_succ_self _)).trans c2.out;have HST:Hid (Eo ms false nd.name nd.value (j+1)=(Eo ms false nd.name nd.value j||Oe false nd.name nd.value m)):=Xk HX;clear hb1 hbel q0
  cases hmk:Eb m with
  |false =>
   have HN:Hid (Eo ms false nd.name nd.value (j+1)=false):=by show _=_;rw[HST.out,hno.out,Oe,hmk];rfl
   clear hmk HST hno
   go_wp2
   go_roundw
   case rel=>exact⟨j+1,by omega,by go_num,HN,HB1⟩
   simp[intOf];omega
  | true =>
   have HH:Hid (Oe false nd.name nd.value m=(decide (Av m=nd.name)&&(false||decide (Ff m=nd.value)))):=by show _=_;rw[Oe,hmk];rfl
   clear hmk;generalize Av m=nm at *;generalize Ff m=vm at *;by_cases hne:nm=nd.name
   .have hte:=Bm hne
    by_cases hv:vm=nd.value
    .have htv:=Bm hv
     have HT:Hid (true=eR ms false nd.name nd.value):=by
      refine Eq.symm (Ox (k:=j+1) ?_ _ (by omega));rw[HST.out,HH.out,decide_eq_true hne,decide_eq_true hv];cases Eo ms false nd.name nd.value j<;>rfl
     clear HST hno HH hne hv
     go_wp2
     go_ret;exact⟨Ab HT,HB0.out.trans (HB1.out.mono HB0.out.size)⟩
    have htv:=Bn hv;have HN:Hid (Eo ms false nd.name nd.value (j+1)=false):=by show _=_;rw[HST.out,hno.out,HH.out,decide_eq_false hv,decide_eq_true hne];rfl
    clear HST hno HH hne hv
    go_wp2
    go_roundw
    case rel=>exact⟨j+1,by omega,by go_num,HN,HB1⟩
    simp[intOf];omega
   have hte:=Bn hne;have HN:Hid (Eo ms false nd.name nd.value (j+1)=false):=by show _=_;rw[HST.out,hno.out,HH.out,decide_eq_false hne];rfl
   clear HST hno HH hne
   go_wp2
   go_roundw
   case rel=>exact⟨j+1,by omega,by go_num,HN,HB1⟩
   simp[intOf];omega
 have hke:j=ms.length:=by omega
 subst hke;have HF:Hid (false=eR ms false nd.name nd.value):=hno.out.symm;clear hno
 go_wp2
 go_ret;exact⟨Ab HF,HB0.out.trans (hbel.out.mono HB0.out.size)⟩
theorem kX(ns:List P.Nd)(out:List (List Nat))(n cn co go g:Nat)(ms:List BA)(am:OA)(cm:Nat)(k a:Nat)(t:P.Tr)(nd:P.Nd)(hol:out.length=n)(hnd:ns[k]?=some nd)(hk:nd.kind=3)(hout:out[k]?=some [a])(ih:Fx ns out n cn co go g ms am cm a t):Fx ns out n cn co go g ms am cm k (P.ntT t):=by
 intro w hN hK hM;have hkl:=P.getElem?_lt hnd;have hlt:=hN.1;have hml:ms.length<=maxLen:=hM.1;unfold maxLen at hml;have hNN:=iH hN;have hKK:=iH hK;have hMM:=iH hM;have q0:∀o1,(w.alloc o1).cell? (E g (k*4))=some (X 3):=λo1=>((Em ((Below.refl w.heap.size w).alloc nL o1)).1 _ _ hlt).trans (by rw[<-hk];exact(hN.2 k nd hnd).1)
 have q1:∀o1,(w.alloc o1).cell? (E g (k*4+1))=some (Y nd.name):=λo1=>((Em ((Below.refl w.heap.size w).alloc nL o1)).1 _ _ hlt).trans (hN.2 k nd hnd).2.1
 have q2:∀o1,(w.alloc o1).cell? (E g (k*4+2))=some (Y nd.value):=λo1=>((Em ((Below.refl w.heap.size w).alloc nL o1)).1 _ _ hlt).trans (hN.2 k nd hnd).2.2.1
 have q3:∀o1,(w.alloc o1).cell? (E g (k*4+3))=some (X nd.kids):=λo1=>((Em ((Below.refl w.heap.size w).alloc nL o1)).1 _ _ hlt).trans (hN.2 k nd hnd).2.2.2
 obtain⟨gk,c,k0,k1⟩:=dU hK hout;have hkn:=Kv hol hout;have hgk:gk<w.heap.size:=block_lt_of_cell k1;have HB0:Hid (bW w ((w.alloc (Obj.cells #[sP g 0 ns.length cn] 174)).alloc (Obj.cells #[X 3,Y nd.name,Y nd.value,X nd.kids] 210))):=((Below.refl w.heap.size w).alloc nL _).alloc (by simp) _;have m0:=cell_regrown ((HB0.out.cell (p:=(E go k)) hK.1).trans k0);have m1:=cell_regrown ((HB0.out.cell (p:=(E gk 0)) hgk).trans k1);have s0:=cell_regrown (show((w.alloc (Obj.cells #[sP g 0 ns.length cn] 174)).alloc (Obj.cells #[X 3,Y nd.name,Y nd.value,X nd.kids] 210)).cell? (E w.heap.size 0)=some (sP g 0 ns.length cn) by simp);have cA:∀d os,Calls prog 174 #[.agg #[sP g 0 ns.length cn],sP go 0 n co,X (a:Int),.slice am ms.length cm] (Sort.grow (redrawn ((w.alloc (Obj.cells #[sP g 0 ns.length cn] 174)).alloc (Obj.cells #[X 3,Y nd.name,Y nd.value,X nd.kids] 210)) d) os) λe w''=>e=.returned (.bool (Ce ms t))/\∃p:Regrown,w''=Sort.grow (redrawn ((w.alloc (Obj.cells #[sP g 0 ns.length cn] 174)).alloc (Obj.cells #[X 3,Y nd.name,Y nd.value,X nd.kids] 210)) p.d) p.os :=
  λd os=>Calls.regrown_of (ih _ ((hNN.out.grown HB0).grown (below_regrown _ d os)) ((hKK.out.grown HB0).grown (below_regrown _ d os)) ((hMM.out.below StrC.holds HB0 nL).below StrC.holds (below_regrown _ d os) nL))
 show Calls _ _ _ _ λe w'=>e=.returned (.bool (!Ce ms t))/\_
 clear hN hK hnd hk hM hNN hKK hMM k0 k1 hout ih;generalize Ce ms t=X9 at *;generalize((a:Nat):Int)=ia at *;go_enter func174,ntmps174;go_wp2_with fail;clear q0 q1 q2 q3;generalize((w.alloc (Obj.cells #[sP g 0 ns.length cn] 174)).alloc (Obj.cells #[X 3,Y nd.name,Y nd.value,X nd.kids] 210))=W at *;cases X9
 all_goals
  refine wp_region_quiet_below (by kernel_rfl) (by kernel_rfl) ?_
  repeat(go_big_quiet_step (first|(go_at_call 174;exact cA _ _)))
  refine wpQuiet_nil ?_;intro w5 hw';obtain⟨⟨dq,osq⟩,hw''⟩:=hw';have hB:=below_regrown W dq osq;simp only[]at hw'';rw[<-hw'']at hB;have HB5:=qTH HB0 hB;clear hw'' hB
  go_wp2
  go_ret;exact⟨rfl,HB5⟩
theorem kY(ns:List P.Nd)(out:List (List Nat))(n cn co go g:Nat)(ms:List BA)(am:OA)(cm:Nat)(k a b:Nat)(t u:P.Tr)(nd:P.Nd)(hol:out.length=n)(hnd:ns[k]?=some nd)(hk:nd.kind=4)(hout:out[k]?=some [a,b])(ih:Fx ns out n cn co go g ms am cm a t)(ih':Fx ns out n cn co go g ms am cm b u):Fx ns out n cn co go g ms am cm k (P.anT t u):=by
 intro w hN hK hM;have hkl:=P.getElem?_lt hnd;have hlt:=hN.1;have hml:ms.length<=maxLen:=hM.1;unfold maxLen at hml;have hNN:=iH hN;have hKK:=iH hK;have hMM:=iH hM;have q0:∀o1,(w.alloc o1).cell? (E g (k*4))=some (X 4):=λo1=>((Em ((Below.refl w.heap.size w).alloc nL o1)).1 _ _ hlt).trans (by rw[<-hk];exact(hN.2 k nd hnd).1)
 have q1:∀o1,(w.alloc o1).cell? (E g (k*4+1))=some (Y nd.name):=λo1=>((Em ((Below.refl w.heap.size w).alloc nL o1)).1 _ _ hlt).trans (hN.2 k nd hnd).2.1
 have q2:∀o1,(w.alloc o1).cell? (E g (k*4+2))=some (Y nd.value):=λo1=>((Em ((Below.refl w.heap.size w).alloc nL o1)).1 _ _ hlt).trans (hN.2 k nd hnd).2.2.1
 have q3:∀o1,(w.alloc o1).cell? (E g (k*4+3))=some (X nd.kids):=λo1=>((Em ((Below.refl w.heap.size w).alloc nL o1)).1 _ _ hlt).trans (hN.2 k nd hnd).2.2.2
 obtain⟨gk,c,k0,k1,k2⟩:=Qd hK hout;have hkn:=Kv hol hout;have hgk:gk<w.heap.size:=block_lt_of_cell k1;have HB0:Hid (bW w ((w.alloc (Obj.cells #[sP g 0 ns.length cn] 174)).alloc (Obj.cells #[X 4,Y nd.name,Y nd.value,X nd.kids] 210))):=((Below.refl w.heap.size w).alloc nL _).alloc (by simp) _;have m0:=cell_regrown ((HB0.out.cell (p:=(E go k)) hK.1).trans k0);have m1:=cell_regrown ((HB0.out.cell (p:=(E gk 0)) hgk).trans k1);have m2:=cell_regrown ((HB0.out.cell (p:=(E gk 1)) hgk).trans k2);have s0:=cell_regrown (show((w.alloc (Obj.cells #[sP g 0 ns.length cn] 174)).alloc (Obj.cells #[X 4,Y nd.name,Y nd.value,X nd.kids] 210)).cell? (E w.heap.size 0)=some (sP g 0 ns.length cn) by simp);have cA:∀d os,Calls prog 174 #[.agg #[sP g 0 ns.length cn],sP go 0 n co,X (a:Int),.slice am ms.length cm] (Sort.grow (redrawn ((w.alloc (Obj.cells #[sP g 0 ns.length cn] 174)).alloc (Obj.cells #[X 4,Y nd.name,Y nd.value,X nd.kids] 210)) d) os) λe w''=>e=.returned (.bool (Ce ms t))/\∃p:Regrown,w''=Sort.grow (redrawn ((w.alloc (Obj.cells #[sP g 0 ns.length cn] 174)).alloc (Obj.cells #[X 4,Y nd.name,Y nd.value,X nd.kids] 210)) p.d) p.os :=
  λd os=>Calls.regrown_of (ih _ ((hNN.out.grown HB0).grown (below_regrown _ d os)) ((hKK.out.grown HB0).grown (below_regrown _ d os)) ((hMM.out.below StrC.holds HB0 nL).below StrC.holds (below_regrown _ d os) nL))
 have cB:∀d os,Calls prog 174 #[.agg #[sP g 0 ns.length cn],sP go 0 n co,X (b:Int),.slice am ms.length cm] (Sort.grow (redrawn ((w.alloc (Obj.cells #[sP g 0 ns.length cn] 174)).alloc (Obj.cells #[X 4,Y nd.name,Y nd.value,X nd.kids] 210)) d) os) λe w''=>e=.returned (.bool (Ce ms u))/\∃p:Regrown,w''=Sort.grow (redrawn ((w.alloc (Obj.cells #[sP g 0 ns.length cn] 174)).alloc (Obj.cells #[X 4,Y nd.name,Y nd.value,X nd.kids] 210)) p.d) p.os :=
  λd os=>Calls.regrown_of (ih' _ ((hNN.out.grown HB0).grown (below_regrown _ d os)) ((hKK.out.grown HB0).grown (below_regrown _ d os)) ((hMM.out.below StrC.holds HB0 nL).below StrC.holds (below_regrown _ d os) nL))
 show Calls _ _ _ _ λe w'=>e=.returned (.bool (Ce ms t&&Ce ms u))/\_
 clear hN hK hnd hk hM hNN hKK hMM k0 k1 k2 hout ih ih';generalize Ce ms t=X9 at *;generalize Ce ms u=Y9 at *;generalize((a:Nat):Int)=ia at *;generalize((b:Nat):Int)=ib at *;go_enter func174,ntmps174;go_wp2_with fail;clear q0 q1 q2 q3;generalize((w.alloc (Obj.cells #[sP g 0 ns.length cn] 174)).alloc (Obj.cells #[X 4,Y nd.name,Y nd.value,X nd.kids] 210))=W at *;cases X9
 all_goals
  refine wp_region_quiet_below (by kernel_rfl) (by kernel_rfl) ?_
  repeat(go_big_quiet_step (first|(go_at_call_has 174 ia;exact cA _ _)|(go_at_call_has 174 ib;exact cB _ _)))
  refine wpQuiet_nil ?_;intro w5 hw';obtain⟨⟨dq,osq⟩,hw''⟩:=hw';have hB:=below_regrown W dq osq;simp only[]at hw'';rw[<-hw'']at hB;have HB5:=qTH HB0 hB;clear hw'' hB
  go_wp2
  go_ret;exact⟨rfl,HB5⟩
theorem iI(ns:List P.Nd)(out:List (List Nat))(n cn co go g:Nat)(ms:List BA)(am:OA)(cm:Nat)(k a b:Nat)(t u:P.Tr)(nd:P.Nd)(hol:out.length=n)(hnd:ns[k]?=some nd)(hk:nd.kind=5)(hout:out[k]?=some [a,b])(ih:Fx ns out n cn co go g ms am cm a t)(ih':Fx ns out n cn co go g ms am cm b u):Fx ns out n cn co go g ms am cm k (P.orT t u):=by
 intro w hN hK hM;have hkl:=P.getElem?_lt hnd;have hlt:=hN.1;have hml:ms.length<=maxLen:=hM.1;unfold maxLen at hml;have hNN:=iH hN;have hKK:=iH hK;have hMM:=iH hM;have q0:∀o1,(w.alloc o1).cell? (E g (k*4))=some (X 5):=λo1=>((Em ((Below.refl w.heap.size w).alloc nL o1)).1 _ _ hlt).trans (by rw[<-hk];exact(hN.2 k nd hnd).1)
 have q1:∀o1,(w.alloc o1).cell? (E g (k*4+1))=some (Y nd.name):=λo1=>((Em ((Below.refl w.heap.size w).alloc nL o1)).1 _ _ hlt).trans (hN.2 k nd hnd).2.1
 have q2:∀o1,(w.alloc o1).cell? (E g (k*4+2))=some (Y nd.value):=λo1=>((Em ((Below.refl w.heap.size w).alloc nL o1)).1 _ _ hlt).trans (hN.2 k nd hnd).2.2.1
 have q3:∀o1,(w.alloc o1).cell? (E g (k*4+3))=some (X nd.kids):=λo1=>((Em ((Below.refl w.heap.size w).alloc nL o1)).1 _ _ hlt).trans (hN.2 k nd hnd).2.2.2
 obtain⟨gk,c,k0,k1,k2⟩:=Qd hK hout;have hkn:=Kv hol hout;have hgk:gk<w.heap.size:=block_lt_of_cell k1;have HB0:Hid (bW w ((w.alloc (Obj.cells #[sP g 0 ns.length cn] 174)).alloc (Obj.cells #[X 5,Y nd.name,Y nd.value,X nd.kids] 210))):=((Below.refl w.heap.size w).alloc nL _).alloc (by simp) _;have m0:=cell_regrown ((HB0.out.cell (p:=(E go k)) hK.1).trans k0);have m1:=cell_regrown ((HB0.out.cell (p:=(E gk 0)) hgk).trans k1);have m2:=cell_regrown ((HB0.out.cell (p:=(E gk 1)) hgk).trans k2);have s0:=cell_regrown (show((w.alloc (Obj.cells #[sP g 0 ns.length cn] 174)).alloc (Obj.cells #[X 5,Y nd.name,Y nd.value,X nd.kids] 210)).cell? (E w.heap.size 0)=some (sP g 0 ns.length cn) by simp);have cA:∀d os,Calls prog 174 #[.agg #[sP g 0 ns.length cn],sP go 0 n co,X (a:Int),.slice am ms.length cm] (Sort.grow (redrawn ((w.alloc (Obj.cells #[sP g 0 ns.length cn] 174)).alloc (Obj.cells #[X 5,Y nd.name,Y nd.value,X nd.kids] 210)) d) os) λe w''=>e=.returned (.bool (Ce ms t))/\∃p:Regrown,w''=Sort.grow (redrawn ((w.alloc (Obj.cells #[sP g 0 ns.length cn] 174)).alloc (Obj.cells #[X 5,Y nd.name,Y nd.value,X nd.kids] 210)) p.d) p.os :=
  λd os=>Calls.regrown_of (ih _ ((hNN.out.grown HB0).grown (below_regrown _ d os)) ((hKK.out.grown HB0).grown (below_regrown _ d os)) ((hMM.out.below StrC.holds HB0 nL).below StrC.holds (below_regrown _ d os) nL))
 have cB:∀d os,Calls prog 174 #[.agg #[sP g 0 ns.length cn],sP go 0 n co,X (b:Int),.slice am ms.length cm] (Sort.grow (redrawn ((w.alloc (Obj.cells #[sP g 0 ns.length cn] 174)).alloc (Obj.cells #[X 5,Y nd.name,Y nd.value,X nd.kids] 210)) d) os) λe w''=>e=.returned (.bool (Ce ms u))/\∃p:Regrown,w''=Sort.grow (redrawn ((w.alloc (Obj.cells #[sP g 0 ns.length cn] 174)).alloc (Obj.cells #[X 5,Y nd.name,Y nd.value,X nd.kids] 210)) p.d) p.os :=
  λd os=>Calls.regrown_of (ih' _ ((hNN.out.grown HB0).grown (below_regrown _ d os)) ((hKK.out.grown HB0).grown (below_regrown _ d os)) ((hMM.out.below StrC.holds HB0 nL).below StrC.holds (below_regrown _ d os) nL))
 show Calls _ _ _ _ λe w'=>e=.returned (.bool (Ce ms t||Ce ms u))/\_
 clear hN hK hnd hk hM hNN hKK hMM k0 k1 k2 hout ih ih';generalize Ce ms t=X9 at *;generalize Ce ms u=Y9 at *;generalize((a:Nat):Int)=ia at *;generalize((b:Nat):Int)=ib at *;go_enter func174,ntmps174;go_wp2_with fail;clear q0 q1 q2 q3;generalize((w.alloc (Obj.cells #[sP g 0 ns.length cn] 174)).alloc (Obj.cells #[X 5,Y nd.name,Y nd.value,X nd.kids] 210))=W at *;cases X9
 all_goals
  refine wp_region_quiet_below (by kernel_rfl) (by kernel_rfl) ?_
  repeat(go_big_quiet_step (first|(go_at_call_has 174 ia;exact cA _ _)|(go_at_call_has 174 ib;exact cB _ _)))
  refine wpQuiet_nil ?_;intro w5 hw';obtain⟨⟨dq,osq⟩,hw''⟩:=hw';have hB:=below_regrown W dq osq;simp only[]at hw'';rw[<-hw'']at hB;have HB5:=qTH HB0 hB;clear hw'' hB
  go_wp2
  go_ret;exact⟨rfl,HB5⟩
theorem tP(ns:List P.Nd)(out:List (List Nat))(n cn co go g:Nat)(ms:List BA)(am:OA)(cm:Nat)(hol:out.length=n)(t:P.Tr)(k:Nat)(h:P.IsT ns out k t):Fx ns out n cn co go g ms am cm k t:=by
 refine P.isT_ind (ns:=ns) (out:=out) (p:=λk t=>Fx ns out n cn co go g ms am cm k t) ?_ ?_ ?_ ?_ ?_ ?_ t k h
 .intro k nd hnd hk _
  exact eG ns out n cn co go g ms am cm k nd hnd hk
 .intro k nd hnd hk _
  exact jH ns out n cn co go g ms am cm k nd hnd hk
 .intro k nd hnd hk _
  exact kO ns out n cn co go g ms am cm k nd hnd hk
 .intro k nd a t hnd hk hout _ _ ih
  exact kX ns out n cn co go g ms am cm k a t nd hol hnd hk hout ih
 .intro k nd a b t u hnd hk hout _ _ _ _ ih ih'
  exact kY ns out n cn co go g ms am cm k a b t u nd hol hnd hk hout ih ih'
 intro k nd a b t u hnd hk hout _ _ _ _ ih ih';exact iI ns out n cn co go g ms am cm k a b t u nd hol hnd hk hout ih ih'
end Go.Proofs.YthboopnmbglkjaaGreat
