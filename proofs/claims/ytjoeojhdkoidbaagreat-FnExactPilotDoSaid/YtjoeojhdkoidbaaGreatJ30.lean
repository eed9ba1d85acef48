import Derived.Test.YtjoeojhdkoidbaaGreatJ29
set_option maxHeartbeats 2000000
namespace Go.Proofs.YtjoeojhdkoidbaaGreat
open Tryz
set_option maxRecDepth 100000
open Go.RowKit Go.WideMaps Go.Maps Tryz
abbrev inV (is:List Int):List Value:=is.map (Value.int .i64)
theorem qK (is:List Int):∀ u∈inV is,u.oneCell'=true:=by
 intro u hu;obtain ⟨i,_,rfl⟩:=List.mem_map.1 hu;rfl
theorem iA (is:List Int) (k:Nat) (v:Int):(inV is).set k (.int .i64 v)=inV (is.set k v):=by
 simp [inV,List.map_set]
theorem Si {ns:List BA} {m n l:Nat} {w:World} {s:BA} (h:w.ownsMap prog 9 (plainElem prog 3) m n (Ak ns l)) (hs:s.size≤maxLen) :
  (Instr.lookup 77 (.map (some m)) (.string s) false).run prog w=.ok (.int .i64 (((An ns s l).getD 0:Nat):Int)) w:=by
 have hkey:keyOf prog 9 (.string s)=some (kOf s):=keyOf_string_mk underlying9 hs;obtain ⟨c,hrun,hc,_⟩:=h.lookup_int Cq underlying77 underlying3 (Cv w) hkey;rw [hrun,Ij (hc.symm.trans (Gs ns s l))]
theorem gH (is:List Int) (g cap base:Nat) (w:World) (hin:w.ownsRow base 3 1 (.slice (some ⟨g,0,none⟩) is.length cap) is.length (inV is)) (hsm:is.length≤1048576) :
  Calls prog 103 #[.slice (some ⟨g,0,none⟩) is.length cap] w fun e w'=>∃ v,e=.returned v∧w'.ownsRow w.heap.size 3 1 v is.length (inV is)∧Below w.heap.size w w':=by
 obtain ⟨i0,hi,hz0,hz1,hz2⟩:=info_parts Ow;have q22:∀ (w:World) (a:OA) (n c n' c':Nat),(binOp .eql 72 (.slice a n c) (.slice none n' c')).run prog w=.ok (.bool a.isNone) w:=fun w a n c n' c'=>Lib.run_eql_slice_nil w _ _ a n c n' c' underlying72
 have HS:Hid (∀ j u,(inV is)[j]?=some u→w.cell? ((⟨g,0,none⟩:Addr).add j)=some u):=by
  intro j u hj;rw [Addr.add_lit,Nat.zero_add,hin.cellAt j (by have:=Ah hj;simpa using this)];exact hj
 clear hin;go_enter func103,ntmps103;go_wp2_with (at_builtin;refine wpList_append_own _ rfl _ _ 72 rfl w.heap.size 3 i0 _ 1 8 underlying72 hi hz0 hz1 hz2 rfl (by decide) _ _ _ rfl (World.ownsRow_made w #[] 0 nL (zL) rfl) ⟨g,0,none⟩ is.length _ (inV is) rfl (by simp) (fun j u hj=>Lib.cell?_alloc_some _ (HS j u hj)) (qK is) (by unfold maxLen;omega) (by omega) (by simp) ?_;intro v' w1 hown hgrow hnil);go_ret;exact ⟨v',rfl,by simpa using hown,((Below.refl _ w).alloc nL _).grown hgrow (by simp) (by intro k hk;cases hk;exact Nat.le_refl _)⟩
def iB (x:Flt) (k:Nat) (is:List Int):Prop:=is.length=x.services.length∧∀ s,s<x.services.length→is[s]?=some (Gp x s k)
theorem mQ (p m2:Nat) (x:Flt) (a2:OA) (c2:Nat) (a3:OA) (c3 lo:Nat) (w:World) (p2:w.cell? ⟨p,2,none⟩=some (.slice a2 x.services.length c2)) (p3:w.cell? ⟨p,3,none⟩=some (.slice a3 x.copies.length c3)) (p5:w.cell? ⟨p,5,none⟩=some (.map (some m2))) (o2:w.ownsMap prog 9 (plainElem prog 3) m2 x.services.length (Ak (svN x) x.services.length)) (n2:SliceC SvcC 2 lo w a2 x.services) (n3:SliceC CpyC 12 lo w a3 x.copies)
  (l2:x.services.length≤30) (l3:x.copies.length≤60) (hsp:∀ (k:Nat) (y:Svc),x.services[k]?=some y→0≤y.spare∧y.spare≤60) (hsv:∀ (k:Nat) (c:Cpy),x.copies[k]?=some c→∃ s,An (svN x) c.service x.services.length=some s) :
  Calls prog 68 #[.pointer (some ⟨p,0,none⟩)] w fun e w'=>∃ g is,e=.returned (.slice (some ⟨g,0,none⟩) is.length is.length)∧iB x x.copies.length is∧w'.ownsRow w.heap.size 3 1 (.slice (some ⟨g,0,none⟩) is.length is.length) is.length (inV is)∧Below w.heap.size w w':=by
 obtain ⟨i0,hi,hz0,hz1,hz2⟩:=info_parts Ow;have N2:=iH n2;have N3:=iH n3;have O2:=iH o2;have hpl:p<w.heap.size:=block_lt_of_cell p2;have hm2:m2<w.heap.size:=o2.lt;have P5:=iH p5;have P3:=iH p3;have HSP:=iH hsp;have HSV:=iH hsv;clear n2 n3 o2 p5 hsp hsv;go_enter func68,ntmps68;go_wp2_with (at_make;refine wpList_make_full _ rfl _ _ 72 rfl w.heap.size 3 i0 _ 1 underlying72 hi hz0 hz1 .i64 .i64 _ _ x.services.length rfl rfl rfl rfl (by rw [hz2];omega) (by unfold maxLen;omega) nL ?_;intro w1 hown hgrow;have hb1:Below w.heap.size w w1:=(Below.refl _ _).grown hgrow nL (fun k h=>by cases h);have p2':w1.cell? ⟨p,2,none⟩=some (.slice a2 x.services.length c2):=(hb1.cell (p:=⟨p,2,none⟩) hpl).trans p2);have HB1:=iH hb1;generalize hX:(madeCells _ (x.services.length*1)).toList=xs0 at hown;clear hX hgrow hi hz0 hz1 hz2 hb1 p2';go_loopw [21] (fun i wr=>∃ (k:Nat) (cs:List Value),k≤x.services.length∧i=.int .i64 k∧Hid (wr.ownsRow w.heap.size 3 1 (.slice (some ⟨w.heap.size,0,none⟩) x.services.length x.services.length) x.services.length cs)∧Hid (∀ s,s<k→cs[s]?=some (.int .i64 (Hi x s)))∧Hid (Below w.heap.size w wr)) (fun i _=>x.services.length - (intOf i).toNat)
 case atStart=>exact ⟨0,xs0,zL,rfl,hown,fun s h=>absurd h (Nat.not_lt_zero _),HB1⟩
 case round =>
  clear hown HB1;obtain ⟨k,cs,hk,rfl,hO,hF,hB⟩:=hrel;by_cases hlt:k<x.services.length
  ·obtain ⟨y,hy⟩:=gXe hlt
   obtain ⟨b,o,rfl,_,_,hc⟩:=(N2.out.below SvcC.holds hB.out nL).at hy;obtain ⟨q0,q1,_⟩:=hc;simp only [Nat.add_zero] at q0;have HX:Hid (Hi x k=y.spare):=by unfold Hi;rw [hy];rfl
   have hxl:cs.length=x.services.length*1:=hO.out.1;obtain ⟨v0,c0⟩:∃ v,wr.cell? ⟨w.heap.size,k,none⟩=some v:=⟨_,(hO.out.cellAt k (by omega)).trans (gE (by omega))⟩;have f0:=hO.out.frozenAt k;have hw0:w.heap.size<wr.heap.size:=(hO.out.lt _ rfl).2;have c1:(wr.alloc (Obj.cells #[.string y.name,.int .i64 y.spare] 103)).cell? ⟨w.heap.size,k,none⟩=some v0:=Lib.cell?_alloc_some _ c0;have hba:=(Below.refl _ wr).alloc nL (Obj.cells #[.string y.name,.int .i64 y.spare] 103);have f1:=(hba.frozen (p:=⟨w.heap.size,k,none⟩) hw0).trans f0;have HBA:=iH hba;clear hy hba;go_wp2_with fail;go_roundw
   case rel =>
    have hO1:=(hO.out.stored k (.int .i64 y.spare)).1;have hB1:Below w.heap.size w (wr.setCell ⟨w.heap.size,k,none⟩ (.int .i64 y.spare)):=hB.out.setCell nL _;refine ⟨k+1,_,by omega,by go_num,Ap hO1 ((Below.refl _ _).alloc nL _),fun s hs=>?_,hB1.alloc hB1.size _⟩;by_cases e:s=k
    ·subst e
     rw [List.getElem?_set_self (by omega),HX.out]
    ·rw [List.getElem?_set_ne (by omega)]
     exact hF.out s (by omega)
   case measure=>simp [intOf];omega
  ·have hke:k=x.services.length:=by omega
   subst hke;have HR:Hid (∃ is,iB x 0 is∧cs=inV is):=by
    refine ⟨(List.range x.services.length).map (Hi x),⟨by simp,fun s hs=>?_⟩,?_⟩
    ·simp [hs,Gp,Co]
    ·apply List.ext_getElem?
     intro j;by_cases hj:j<x.services.length
     ·rw [hF.out j hj]
      simp [inV,hj]
     ·have h1:=hO.out.1
      rw [List.getElem?_eq_none (by omega),List.getElem?_eq_none (by simp;omega)]
   obtain ⟨is0,hS0,rfl⟩:=HR.out;have HS0:=iH hS0;have PA:wr.cell? ⟨p,3,none⟩=some (.slice a3 x.copies.length c3):=(hB.out.cell (p:=⟨p,3,none⟩) hpl).trans P3;clear hS0 HR hF;go_wp2_with fail;go_loopw [38] (fun i wr=>∃ (k:Nat) (is:List Int),k≤x.copies.length∧i=.int .i64 k∧Hid (iB x k is)∧Hid (wr.ownsRow w.heap.size 3 1 (.slice (some ⟨w.heap.size,0,none⟩) x.services.length x.services.length) x.services.length (inV is))∧Hid (Below w.heap.size w wr)) (fun i _=>x.copies.length - (intOf i).toNat)
   case atStart=>exact ⟨0,is0,zL,rfl,HS0,hO,hB⟩
   case round =>
    clear HS0 hO hB PA;obtain ⟨k,is,hk,rfl,hS,hO,hB⟩:=hrel;by_cases hlt:k<x.copies.length
    ·obtain ⟨y,hy⟩:=gXe hlt
     obtain ⟨b,o,rfl,_,_,hc⟩:=(N3.out.below CpyC.holds hB.out nL).at hy;obtain ⟨a7,c7,q0,q1,q2,q3,q4,q5,q6,q7,q8,q9,q10,q11,z0,z1,z6,z9,z10,z11,z7⟩:=hc;simp only [Nat.add_zero] at q0 q1 q2 q3 q4 q5 q6 q7 q8 q9 q10 q11;have HRA:Hid (wr.rangeAt b (o+k*12) (ccL y a7 c7)):=Aa q0 (Aa q1 (Aa q2 (Aa q3 (Aa q4 (Aa q5 (Aa q6 (Aa q7 (Aa q8 (Aa q9 (Aa q10 (Aa q11 (Ao _ _ _))))))))))));have HX:=iH hy;have Z1:=iH z1;clear hy q0 q1 q2 q3 q4 q5 q6 q7 q8 q9 q10 q11 z0 z1 z6 z7 z9 z10 z11;go_upto_region 10 with (first | (refine qLr Hf HRA ?_));have hbx:=(Below.refl _ wr).alloc nL (Obj.cells (ccA y a7 c7) 55);have g1:(wr.alloc (Obj.cells (ccA y a7 c7) 55)).cell? ⟨wr.heap.size,1,none⟩=some (.string y.service):=by simp
     have g11:(wr.alloc (Obj.cells (ccA y a7 c7) 55)).cell? ⟨wr.heap.size,11,none⟩=some (.string y.at_):=by simp
     have HB4:=qTH hB hbx;have HO4:=iH (Ap hO.out hbx);clear HRA hbx hO hB;generalize (wr.alloc (Obj.cells (ccA y a7 c7) 55))=w4 at *;by_cases hat:y.at_=⟨#[]⟩
     ·obtain ⟨s,hs⟩:=HSV.out k y HX
      have HW:Hid (Lq x s k=true):=by show _=_;unfold Lq;rw [HX.out];simp [hat,hs]
      have HW2:Hid (∀ t,t≠s→Lq x t k=false):=by
       intro t ht;unfold Lq;rw [HX.out];simp only [hs,Option.some.injEq,Bool.and_eq_false_iff,decide_eq_false_iff_not];exact Or.inr (fun e=>ht e.symm)
      have hsl:s<x.services.length:=(Dk hs).1;obtain ⟨iv,hiv⟩:∃ iv,is[s]?=some iv:=⟨_,hS.out.2 s hsl⟩;have hie:iv=Gp x s k:=by have:=hS.out.2 s hsl;rw [hiv] at this;injection this
      have hbd:-60≤iv∧iv≤60:=by
       have h1:=Jg (Lq x s) k;have h2:=HSP.out s _ (gE hsl);rw [hie];unfold Gp Hi;rw [gE hsl];simp only;omega
      have hil:is.length=x.services.length:=hS.out.1;have r0:w4.cell? ⟨w.heap.size,s,none⟩=some (.int .i64 iv):=by
       rw [HO4.out.cellAt s (by omega),List.getElem?_map,hiv];rfl
      have f0:=HO4.out.frozenAt s;have PB:w4.cell? ⟨p,5,none⟩=some (.map (some m2)):=(HB4.out.cell (p:=⟨p,5,none⟩) hpl).trans P5;have yl:=Si (s:=y.service) (Ai O2 HB4 hm2).drew Z1;rw [hs] at yl;simp only [Option.getD_some] at yl;have hte:=Bf hat;have hte2:y.at_.toList.isEmpty=true:=by rw [hte];rfl
      obtain ⟨hb1,hb2⟩:=hbd;have HIE:=iH hie;have HIV:=iH hiv;clear hs hat hie hiv;go_wp2_with fail
      go_region
      go_wp2_with fail;go_roundw
      case rel =>
       have hO1:=(HO4.out.stored s (.int .i64 (iv - 1))).1;rw [iA] at hO1;refine ⟨k+1,is.set s (iv - 1),by omega,by go_num,⟨by rw [List.length_set];exact hil,fun t ht=>?_⟩,Ap hO1 ((Below.refl _ _).drew),(HB4.out.setCell nL _).drew⟩;by_cases e:t=s
       ·subst e
        rw [List.getElem?_set_self (by omega),HIE.out];unfold Gp;rw [Gk HW.out]
        congr 1
        omega
       ·rw [List.getElem?_set_ne (by omega),hS.out.2 t ht]
        unfold Gp;rw [Hs (HW2 t e)]
      case measure=>simp [intOf];omega
     ·have HW:Hid (∀ t,Lq x t k=false):=by
       intro t;unfold Lq;rw [HX.out];simp [hat]
      have hte:=Ay hat;have hte2:y.at_.toList.isEmpty=false:=by
       cases h:y.at_.toList with
       | nil=>exact absurd h hte
       | cons a l=>rfl
      clear hat;go_wp2_with fail;go_roundw
      case rel =>
       refine ⟨k+1,is,by omega,by go_num,⟨hS.out.1,fun s hs=>?_⟩,HO4,HB4⟩;rw [hS.out.2 s hs];unfold Gp;rw [Hs (HW s)]
      case measure=>simp [intOf];omega
    ·have hke:k=x.copies.length:=by omega
     subst hke;go_wp2_with fail;go_ret;have hil:=hS.out.1;exact ⟨w.heap.size,is,by rw [hil];rfl,hS.out,by rw [hil];exact hO.out,hB.out⟩
theorem lO {w:World} {base:Nat} {e:TypeId} {v:Value} {is:List Int} (h:w.ownsRow base e 1 v is.length (inV is)) (hm:is.length≤maxLen):∃ a c,v=.slice a is.length c∧SliceC IntC 1 base w a is:=by
 rcases h.2 with ⟨hv,h0⟩ | ⟨g,cap,cur,hv,hb,hg,_⟩
 ·have:is=[]:=List.length_eq_zero_iff.1 h0
  subst this;exact ⟨none,0,hv,SliceC.nil⟩
 ·subst hv
  refine ⟨_,cap,rfl,hm,.inr ⟨g,0,rfl,⟨hb,fun _ p=>h.frozenAt p⟩,(Array.getElem?_eq_some_iff.1 hg).1,fun j x hj=>?_⟩⟩;have hlt:=Ah hj;have:=h.cellAt (j*1+0) (by simp;omega);simp only [Nat.mul_one,Nat.add_zero,List.getElem?_map,hj,Option.map_some] at this;show _=_
  simpa using this
abbrev plI (pl:List Nat):List Int:=pl.map fun k=>((k:Nat):Int)
theorem Pn {pl:List Nat} {j q:Nat} (h:pl[j]?=some q):(plI pl)[j]?=some (q:Int):=by
 rw [List.getElem?_map,h];rfl
theorem tD (pl:List Nat):plV pl=inV (plI pl):=by simp [plV,inV,plI]
theorem tM {x:Flt} {pl:List Nat} {k q s:Nat} {c:Cpy} (hq:pl[k]?=some q) (hc:x.copies[q]?=some c) (hs:An (svN x) c.service x.services.length=some s):goF x pl s k=true∧∀ t,t≠s→goF x pl t k=false:=by
 unfold goF mU;rw [hq];simp only [hc,hs];exact ⟨by simp,fun t ht=>by simp;exact fun e=>ht e.symm⟩
def uO (x:Flt) (pl:List Nat) (k:Nat) (is:List Int):Prop:=is.length=x.services.length∧(∀ s,s<x.services.length→is[s]?=some (Gp x s x.copies.length - (Co (goF x pl s) k:Nat)))∧∀ s,s<x.services.length→0<Co (goF x pl s) k→((Co (goF x pl s) k:Nat):Int)≤Gp x s x.copies.length
theorem fR (p m2:Nat) (x:Flt) (a3:OA) (c3 lo lo2:Nat) (pl:List Nat) (pa:OA) (pc:Nat) (is:List Int) (g base:Nat) (w:World) (p3:w.cell? ⟨p,3,none⟩=some (.slice a3 x.copies.length c3)) (p5:w.cell? ⟨p,5,none⟩=some (.map (some m2))) (o2:w.ownsMap prog 9 (plainElem prog 3) m2 x.services.length (Ak (svN x) x.services.length)) (n3:SliceC CpyC 12 lo w a3 x.copies)
  (l2:x.services.length≤30) (l3:x.copies.length≤60) (hsp:∀ (k:Nat) (y:Svc),x.services[k]?=some y→0≤y.spare∧y.spare≤60) (hsv:∀ (k:Nat) (c:Cpy),x.copies[k]?=some c→∃ s,An (svN x) c.service x.services.length=some s)
  (hpl:SliceC IntC 1 lo2 w pa (plI pl)) (hsm:pl.length≤1048576) (hin:∀ (j q:Nat),pl[j]?=some q→q<x.copies.length) (hS:iB x x.copies.length is) (hI:w.ownsRow base 3 1 (.slice (some ⟨g,0,none⟩) is.length is.length) is.length (inV is)) :
  Calls prog 67 #[.pointer (some ⟨p,0,none⟩),.slice pa pl.length pc,.slice (some ⟨g,0,none⟩) is.length is.length] w fun e w'=>∃ b,e=.returned (.bool b)∧(b=true↔Ur x pl)∧Below w.heap.size w w':=by
 have N3:=iH n3;have O2:=iH o2;have hpp:p<w.heap.size:=block_lt_of_cell p3;have hm2:m2<w.heap.size:=o2.lt;have P5:=iH p5;have P3:=iH p3;have HSP:=iH hsp;have HSV:=iH hsv;have HPL:=iH hpl;have HIN:=iH hin;have HS:=iH hS;have HI:=iH hI;have HIL:Hid (is.length=x.services.length):=hS.1;clear n3 o2 p3 p5 hsp hsv hpl hin hS hI;go_enter func67,ntmps67;go_wp2_with fail;refine (gH is g _ base _ HI (by have:=HIL.out;omega)).mono ?_;rintro e w1 ⟨v,rfl,hown,hb1⟩;have HB1:=iH hb1;have HR:Hid (∃ h cap,v=.slice (some ⟨h,0,none⟩) is.length cap∧w.heap.size≤h)∨is.length=0:=by
  by_cases h0:is.length=0
  ·exact Or.inr h0
  ·obtain ⟨h,cap,e,hb,_⟩:=World.ownsRow.form hown (by omega)
   exact Or.inl ⟨h,cap,e,hb⟩
 have HO1:=iH hown;clear hown hb1 HI;go_wp2_with fail;go_loopw [15] (fun i wr=>∃ (k:Nat) (js:List Int),k≤pl.length∧i=.int .i64 k∧Hid (uO x pl k js)∧Hid (wr.ownsRow w.heap.size 3 1 v is.length (inV js))∧Hid (Below w.heap.size w wr)) (fun i _=>pl.length - (intOf i).toNat)
 case atStart =>
  refine ⟨0,is,zL,rfl,⟨HIL,fun s hs=>?_,fun s _ h=>absurd h (by simp [Co])⟩,HO1,HB1⟩;rw [HS.out.2 s hs];simp [Co]
 case round =>
  clear HO1 HB1;obtain ⟨k,js,hk,rfl,hF,hO,hB⟩:=hrel;by_cases hlt:k<pl.length
  ·obtain ⟨q,hq⟩:=gXe hlt
   have hqc:=HIN.out k q hq;obtain ⟨y,hy⟩:=gXe hqc;obtain ⟨s,hs⟩:=HSV.out q y hy;have hsl:s<x.services.length:=(Dk hs).1;have hjl:js.length=x.services.length:=hF.out.1;obtain ⟨h,cap,rfl,hbh⟩:=(HR.resolve_right (by have:=HIL.out;omega)).out;obtain ⟨b',o',rfl,_,_,hcp⟩:=(HPL.out.below IntC.holds hB.out nL).at (Pn hq);have t0:_=_:=hcp;simp only [Nat.mul_one,Nat.add_zero] at t0;obtain ⟨b,o,rfl,_,_,hc⟩:=(N3.out.below CpyC.holds hB.out nL).at hy;obtain ⟨a7,c7,q0,q1,q2,q3,q4,q5,q6,q7,q8,q9,q10,q11,z0,z1,z6,z9,z10,z11,z7⟩:=hc;have HG:=iH (tM hq hy hs);have PA:wr.cell? ⟨p,3,none⟩=some (.slice (some ⟨b,o,none⟩) x.copies.length c3):=(hB.out.cell (p:=⟨p,3,none⟩) hpp).trans P3;have PB:wr.cell? ⟨p,5,none⟩=some (.map (some m2)):=(hB.out.cell (p:=⟨p,5,none⟩) hpp).trans P5;have yl:=Si (s:=y.service) (Ai O2 hB.out hm2).drew z1;rw [hs] at yl;simp only [Option.getD_some] at yl;obtain ⟨iv,hiv⟩:∃ iv,js[s]?=some iv:=⟨_,hF.out.2.1 s hsl⟩;have hie:iv=Gp x s x.copies.length - (Co (goF x pl s) k:Nat):=by have:=hF.out.2.1 s hsl;rw [hiv] at this;injection this
   have hbd:-1048700≤iv∧iv≤60:=by
    have h1:=Jg (Lq x s) x.copies.length;have h3:=Jg (goF x pl s) k;have h2:=HSP.out s _ (gE hsl);rw [hie];unfold Gp Hi;rw [gE hsl];simp only;omega
   obtain ⟨hb1,hb2⟩:=hbd;have hsl2:s<is.length:=by have:=HIL.out;omega
   have r0:wr.cell? ⟨h,s,none⟩=some (.int .i64 iv):=by
    rw [hO.out.cellAt s (by omega),List.getElem?_map,hiv];rfl
   have f0:wr.frozen? ⟨h,s,none⟩=false:=hO.out.frozenAt s;have HST:=iH (hO.out.stored s (.int .i64 (iv - 1))).1;have r1:(wr.setCell ⟨h,s,none⟩ (.int .i64 (iv - 1))).cell? ⟨h,s,none⟩=some (.int .i64 (iv - 1)):=by
    rw [HST.out.cellAt s (by omega),List.getElem?_set_self (by have:=hO.out.1;omega)]
   have HIE:=iH hie;have HIV:=iH hiv;have hw0:h<wr.heap.size:=(hO.out.lt _ rfl).2;clear hq hy hs hie hiv hcp q0 q2 q3 q4 q5 q6 q7 q8 q9 q10 q11 z0 z1 z6 z9 z10 z11 z7;by_cases hneg:iv - 1<0
   ·have HC:Hid (¬ Ur x pl):=by
     intro hl;have h1:=hl s hsl;have h2:=Uv (goF x pl s) pl.length (k+1) (by omega);rw [Gk HG.out.1] at h2;have h3:=HIE.out;have h4:=h1 (by omega);omega
    go_wp2_with fail
    go_region
    go_wp2_with fail;go_ret;exact ⟨false,rfl,⟨(fun h=>by cases h),(fun h=>absurd h HC)⟩,(hB.out.setCell hbh _).drew⟩
   ·go_wp2_with fail
    go_region
    go_wp2_with fail;go_roundw
    case rel =>
     have h1:=HST.out;rw [iA] at h1;refine ⟨k+1,js.set s (iv - 1),by omega,by go_num,⟨by rw [List.length_set];exact hjl,fun t ht=>?_,fun t ht h0=>?_⟩,Ap h1 ((Below.refl _ _).drew),(hB.out.setCell hbh _).drew⟩
     ·by_cases e:t=s
      ·subst e
       rw [List.getElem?_set_self (by omega),HIE.out,Gk HG.out.1]
       congr 1
       omega
      ·rw [List.getElem?_set_ne (by omega),hF.out.2.1 t ht,Hs (HG.out.2 t e)]
     ·by_cases e:t=s
      ·subst e
       rw [Gk HG.out.1];have:=HIE.out;omega
      ·rw [Hs (HG.out.2 t e)] at h0 ⊢
       exact hF.out.2.2 t ht h0
    case measure=>simp [intOf];omega
  ·have hke:k=pl.length:=by omega
   subst hke;go_wp2_with fail;go_ret;exact ⟨true,rfl,⟨fun _ s hs h0=>hF.out.2.2 s hs h0,fun _=>rfl⟩,hB.out⟩
def vL (e:Ending) (q:Prop):Prop:=∃ b,e=.returned (.bool b)∧(b=true↔q)
def vU (e:Ending) (q:Prop):Prop:=∃ v b,e=.returned (.tuple #[v,.bool b])∧(b=true↔q)
def May (x:Flt) (gone:List BA):Prop:=MayA x gone gone.length∧MayC x gone x.services.length
def vV (x:Flt) (gone:List BA):Prop:=Cf x=true∧May x gone
end Go.Proofs.YtjoeojhdkoidbaaGreat
