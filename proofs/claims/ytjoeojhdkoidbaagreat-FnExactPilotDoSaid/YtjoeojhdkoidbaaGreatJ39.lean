import Derived.Test.YtjoeojhdkoidbaaGreatJ38
set_option maxHeartbeats 4000000
set_option maxRecDepth 100000
namespace Go.Proofs.YtjoeojhdkoidbaaGreat
open Go.RowKit Go.WideMaps Go.Maps Tryz
def LvR (x:Flt) (gone:List BA) (w:World) (e:Ending) (w':World):Prop :=
 ∃ v b,e=.returned (.tuple #[v,.bool b])∧(b=true↔May x gone)∧(b=true→∃ pa pc,v=.slice pa (Di x gone).length pc∧SliceC IntC 1 w.heap.size w' pa (plI (Di x gone))∧∀ (j q:Nat),(Di x gone)[j]?=some q→q<x.copies.length)∧Below w.heap.size w w'
theorem Xq (p m1 m2 m3 m4:Nat) (x:Flt) (a1:OA) (c1:Nat) (a2:OA) (c2:Nat) (a3:OA) (c3:Nat) (lo:Nat) (gone:List BA) (ga:OA) (gc lo2:Nat) (w:World) (hf:Found p m1 m2 m3 m4 x a1 c1 a2 c2 a3 c3 w) (n2:SliceC SvcC 2 lo w a2 x.services) (n3:SliceC CpyC 12 lo w a3 x.copies) (hg:SliceC StrC 1 lo2 w ga gone) (hsm:gone.length≤1048576) (hv:Ce x=true) :
  Calls prog 30 #[.pointer (some ⟨p,0,none⟩),.slice ga gone.length gc] w fun e w'=>LvR x gone w e w':=by
 have HF:=iH hf;have N2:=iH n2;have N3:=iH n3;have HG:=iH hg;have HV:=iH hv;obtain ⟨l2,l3,hs,hc,hsp,hsv⟩:=Cf hv;have HSP:=iH hsp;have HSV:=iH hsv;clear hf n2 n3 hg hv hs hc hsp hsv;go_enter func30,ntmps30;go_wp2_with fail;refine (Zq p m3 (cpN x) gone ga gc lo2 _ (HF.out.1 6 _ rfl) (by have:=HF.out.2.2.2.2.1;simpa using this) HG hsm).mono ?_;rintro e w1 ⟨hb1,hh⟩;have HB1:=iH hb1;rcases hh with ⟨rfl,j,g,hj,hl⟩ | ⟨pl,v,rfl,hp,hown⟩
 ·have HN:=iH (qD hj hl)
  clear hb1 hj hl;go_wp2_with fail
  go_ret2
  exact ⟨_,false,rfl,⟨(fun h=>by cases h),(fun h=>absurd h.1 HN)⟩,(fun h=>by cases h),HB1⟩
 ·have HP:=iH hp
  have HEQ:Hid (pl=Di x gone):=qN HV hp;have HL:=iH (kJ HV hp);have hpl:pl.length=gone.length:=hp.1;rw [tE] at hown;obtain ⟨pa,pc,rfl,hps⟩:=kF (is:=plI pl) (by simpa using hown) (by simp;unfold maxLen;omega);simp only [List.length_map] at *;have HIN:Hid (∀ (j q:Nat),pl[j]?=some q→q<x.copies.length):=by
   intro j q hj;have hjl:=Ah hj;obtain ⟨r,h1,h2⟩:=hp.2 j _ (by omega) (gE (by omega));rw [hj] at h1;cases h1
   simpa using (Dj h2).1
  have HPS:=iH hps;have HOW:=iH hown;have HF1:=iH (HF.out.below hb1);have N3':=qSl CpyC.holds N3 hb1;have N2':=qSl SvcC.holds N2 hb1;have P3:w1.cell? ⟨p,3,none⟩=some (.slice a3 x.copies.length c3):=HF1.out.1 3 _ rfl;have HPL:=iH hpl;have hsm':pl.length≤1048576:=by omega
  clear hp hps hown hb1 hpl HP hsm;go_wp2_with fail;go_loopw [20] (fun i wr=>∃ (k:Nat),k≤pl.length∧i=.int .i64 k∧Hid (Po x pl k)∧wr=w1) (fun i _=>pl.length - (intOf i).toNat)
  case atStart=>exact ⟨0,zL,rfl,⟨fun j q h=>absurd h (Nat.not_lt_zero _),fun j q r h=>absurd h (Nat.not_lt_zero _)⟩,rfl⟩
  case round =>
   obtain ⟨k,hk,rfl,hA,rfl⟩:=hrel;by_cases hlt:k<pl.length
   ·obtain ⟨q,hq⟩:=gXe hlt
    have hqc:=HIN.out k q hq;obtain ⟨y,hy⟩:=gXe hqc;obtain ⟨b',o',rfl,_,_,hcp⟩:=HPS.out.at (Pr hq);have t0:_=_:=hcp;simp only [Nat.mul_one,Nat.add_zero] at t0;obtain ⟨b,o,rfl,_,_,hc⟩:=N3'.out.at hy;obtain ⟨a7,c7,q0,q1,q2,q3,q4,q5,q6,q7,q8,q9,q10,q11,z0,z1,z6,z9,z10,z11,z7⟩:=hc;have HQ:=iH hq;have HY:=iH hy;clear hcp q0 q1 q2 q3 q4 q5 q6 q7 q8 q9 q10 z0 z1 z6 z9 z10 z11 z7 hq hy;by_cases hat:y.at_=⟨#[]⟩
    ·have HN:Hid (¬ Po x pl pl.length):=by
      intro h;obtain ⟨c,h1,h2⟩:=h.1 k q hlt HQ;rw [HY.out] at h1;cases h1
      exact h2 hat
     have hte:=Bh hat;have hte2:y.at_.toList.isEmpty=true:=by rw [hte];rfl
     clear hat;go_wp2_with fail
     go_ret2
     exact ⟨_,false,rfl,⟨(fun h=>by cases h),(fun h=>absurd (HL.out.2 h).1 HN)⟩,(fun h=>by cases h),HB1⟩
    ·have hte:=Az hat
     have hte2:y.at_.toList.isEmpty=false:=by
      cases h:y.at_.toList with
      | nil=>exact absurd h hte
      | cons a l=>rfl
     have HAT:=iH hat;clear hat
     cases k with
     | zero =>
      have t0':wr.cell? ⟨b',o',none⟩=some (.int .i64 (q:Int)):=by simpa using t0
      go_wp2_with fail;go_roundw
      case rel =>
       refine ⟨0+1,by omega,by go_num,⟨fun j r hj hr=>?_,fun j q r h=>absurd h (by omega)⟩,trivial⟩;have:j=0:=by omega
       subst this;rw [HQ.out] at hr;cases hr
       exact ⟨y,HY,HAT⟩
      case measure=>simp [intOf];omega
     | succ m =>
      obtain ⟨r,hr⟩:∃ r,pl[m]?=some r:=⟨pl[m],gE (by omega)⟩;have t1:wr.cell? ⟨b',o'+m,none⟩=some (.int .i64 (r:Int)):=by
       obtain ⟨b2,o2,e,_,_,hcp⟩:=HPS.out.at (Pr hr);cases e
       have t1:_=_:=hcp;simpa only [Nat.mul_one,Nat.add_zero] using t1
      have HR:=iH hr;clear hr;by_cases hge:(q:Int)≤(r:Int)
      ·have HN:Hid (¬ Po x pl pl.length):=by
        intro h;have:=h.2 m r q hlt HR HQ;omega
       go_wp2_with fail
       go_ret2
       exact ⟨_,false,rfl,⟨(fun h=>by cases h),(fun h=>absurd (HL.out.2 h).1 HN)⟩,(fun h=>by cases h),HB1⟩
      ·go_wp2_with fail
       go_roundw
       case rel =>
        refine ⟨m+1+1,by omega,by go_num,⟨fun j r' hj hr=>?_,fun j u u' hj hu hu'=>?_⟩,trivial⟩
        ·by_cases e:j=m+1
         ·subst e
          rw [HQ.out] at hr;cases hr
          exact ⟨y,HY,HAT⟩
         ·exact hA.out.1 j r' (by omega) hr
        ·by_cases e:j=m
         ·subst e
          rw [HR.out] at hu;rw [HQ.out] at hu';cases hu
          cases hu'
          omega
         ·exact hA.out.2 j u u' (by omega) hu hu'
       case measure=>simp [intOf];omega
   ·have hke:k=pl.length:=by omega
    subst hke;go_wp2_with fail;refine (mD p m2 x a2 c2 a3 c3 lo _ (HF1.out.1 2 _ rfl) P3 (HF1.out.1 5 _ rfl) HF1.out.2.2.2.1 N2'.out N3'.out l2 l3 HSP HSV).mono ?_;rintro e w2 ⟨g,is,rfl,hS,hown,hb2⟩;have HS:=iH hS;have HO:=iH hown;have HB2:=iH hb2;have HF2:=iH (HF1.out.below hb2);have P3':w2.cell? ⟨p,3,none⟩=some (.slice a3 x.copies.length c3):=HF2.out.1 3 _ rfl;clear hS hown hb2;go_wp2_with fail;refine (eZ p m2 x a3 c3 lo w.heap.size pl pa pc is g wr.heap.size _ P3' (HF2.out.1 5 _ rfl) HF2.out.2.2.2.1 (N3'.out.below CpyC.holds HB2 nL) l2 l3 HSP HSV (HPS.out.below IntC.holds HB2 nL) hsm' HIN HS HO).mono ?_;rintro e w3 ⟨bb,rfl,hbb,hb3⟩;have HBB:=iH hbb;have HB3:=iH hb3;clear hbb hb3;go_wp2_with fail
    go_ret2
    refine ⟨_,bb,rfl,⟨fun h=>HL.out.1 ⟨hA.out,HBB.out.1 h⟩,fun h=>HBB.out.2 (HL.out.2 h).2⟩,(fun _=>?_),?_⟩
    ·rw [← HEQ.out]
     exact ⟨pa,pc,rfl,(HPS.out.below IntC.holds HB2 nL).below IntC.holds HB3 nL,HIN⟩
    have h1:=HB1.out.trans (HB2.out.mono HB1.out.size);exact h1.trans (HB3.out.mono h1.size)
end Go.Proofs.YtjoeojhdkoidbaaGreat
namespace Go.Proofs.YtjoeojhdkoidbaaGreat
open Go.RowKit Tryz
theorem Qu {B:Nat} {w w':World} (h:Below B w w') (n:Nat):Below B w (w'.drewN n):=⟨h.os,h.tape,h.output,h.size,h.block⟩
theorem Yz (pf ps p b o n c t:Nat) (s u:BA) (w:World) (h1:w.cell? ⟨pf,0,none⟩=some (.pointer (some ⟨p,0,none⟩))) (h2:w.cell? ⟨ps,0,none⟩=some (.string s)) (h3:w.cell? ⟨p,3,none⟩=some (.slice (some ⟨b,o,none⟩) n c)) (h4:w.cell? ⟨b,o+t*12+11,none⟩=some (.string u)) (ht:t<n) :
  Calls prog 70 #[.int .i64 (t:Int),.pointer (some ⟨pf,0,none⟩),.pointer (some ⟨ps,0,none⟩)] w (Rt (.bool (!decide (u=s))) w):=by
 by_cases h:u=s
 ·have HE:Hid ((!decide (u=s))=false):=by show _=_;simp [h]
  have hb:=Bn h;clear h;go_enter func70,ntmps70;go_upto_region 1 with fail
  go_quiet (fail)
  go_wp2_with fail;go_ret;exact ⟨Ac HE.out.symm,Qu (Below.refl _ _) _⟩
 ·have HE:Hid ((!decide (u=s))=true):=by show _=_;simp [h]
  have hb:=Br h;clear h;go_enter func70,ntmps70;go_upto_region 1 with fail
  go_quiet (fail)
  go_wp2_with fail;go_ret;exact ⟨Ac HE.out.symm,Qu (Below.refl _ _) _⟩
theorem fE (f:Nat) (cap:Array Value) (Q:Nat→Bool) (xs:List Nat) (a:OA) (ca lo:Nat) (w:World) (hin:SliceC IntC 1 lo w a (plI xs)) (hsm:xs.length≤1048576)
  (hf:∀ x∈xs,∀ v,Below w.heap.size w v→Calls prog f (#[.int .i64 (x:Int)]++cap) v fun e w'=>e=.returned (.bool (Q x))∧Below v.heap.size v w') (heg:∀ args w,(callFunc f args).run prog w=.ok (.enter f args) w) :
  Calls prog 104 #[.slice a xs.length ca,.func (.func f) #[] cap] w fun e w'=>∃ k:Int,e=.returned (.int .i64 k)∧((0≤k∧xs.any Q=true)∨(k=-1∧xs.any Q=false))∧Below w.heap.size w w':=by
 have HI:=iH hin;have HFF:=iH hf;clear hin hf;go_enter func104,ntmps104;go_wp2_with fail;go_loopw [8] (fun i wr=>∃ k:Nat,k≤xs.length∧i=.int .i64 k∧Hid (∀ x∈xs.take k,Q x=false)∧Below w.heap.size w wr) (fun i _=>xs.length - (intOf i).toNat)
 case atStart=>exact ⟨0,zL,rfl,fun x hx=>by simp at hx,Below.refl _ _⟩
 case round =>
  obtain ⟨k,hk,rfl,HN,hB⟩:=hrel;by_cases hlt:k<xs.length
  case neg =>
   have hke:k=xs.length:=by omega
   subst hke;have HA:Hid (xs.any Q=false):=by
    have:=HN.out;rw [List.take_length] at this;show _=_
    rw [List.any_eq_false];intro x hx;rw [this x hx];exact Bool.false_ne_true
   go_wp2_with fail;go_ret;exact ⟨-1,rfl,.inr ⟨rfl,HA⟩,hB⟩
  obtain ⟨x,hx⟩:=gXe hlt;obtain ⟨b,ob,rfl,_,hbl,hc⟩:=(HI.out.below IntC.holds hB nL).at (Pr hx);have t0:_=_:=hc;simp only [Nat.mul_one,Nat.add_zero] at t0;have HXM:Hid (x∈xs):=List.mem_of_getElem? hx;have HNX:Hid (Q x=false→∀ y∈xs.take (k+1),Q y=false):=by
   intro hp y hy;rw [List.take_add_one,hx] at hy;simp at hy;rcases hy with h | h
   ·exact HN.out y h
   ·rw [h];exact hp
  clear hc hx HN;go_wp2_with fail;refine (HFF x HXM _ hB).mono ?_;rintro e w5 ⟨rfl,hb5⟩;have hB5:=qTr hB hb5;clear hb5 hB t0
  cases hP:Q x with
  | true =>
   have HA:Hid (xs.any Q=true):=List.any_eq_true.2 ⟨x,HXM,hP⟩;clear hP HNX;go_wp2_with fail;go_ret;exact ⟨k,rfl,.inl ⟨by omega,HA⟩,hB5⟩
  | false =>
   have HN2:=iH (HNX hP);clear hP HNX;go_wp2_with fail;go_roundw
   case rel=>exact ⟨k+1,by omega,by go_num,HN2,hB5⟩
   case measure=>simp [intOf];omega
theorem Vl (f:Nat) (cap:Array Value) (Q:Nat→Bool) (xs:List Nat) (a:OA) (ca lo:Nat) (w:World) (hin:SliceC IntC 1 lo w a (plI xs)) (hsm:xs.length≤1048576)
  (hf:∀ x∈xs,∀ v,Below w.heap.size w v→Calls prog f (#[.int .i64 (x:Int)]++cap) v fun e w'=>e=.returned (.bool (Q x))∧Below v.heap.size v w') (heg:∀ args w,(callFunc f args).run prog w=.ok (.enter f args) w) :
  Calls prog 69 #[.slice a xs.length ca,.func (.func f) #[] cap] w (Rt (.bool (xs.any Q)) w):=by
 go_enter func69,ntmps69;have HCC:=iH (fE f cap Q xs a ca lo w hin hsm hf heg);clear hin hf heg;go_wp2_with fail;refine HCC.out.mono ?_;rintro e w4 ⟨k,rfl,hk,hb4⟩;rcases hk with ⟨h1,h2⟩ | ⟨h1,h2⟩
 ·go_wp2_with fail
  go_ret;exact ⟨Ac h2.symm,hb4⟩
 ·subst h1
  go_wp2_with fail;go_ret;exact ⟨Ac h2.symm,hb4⟩
def Mu (l:List Cpy) (s:BA) (t:Nat):Bool:=match l[t]? with
 | some c=>!decide (c.at_=s)
 | none=>false
theorem Zl (p:Nat) (l:List Cpy) (a3:OA) (c3 lo:Nat) (s:BA) (pl:List Nat) (pa:OA) (pc lo2:Nat) (w:World) (hp:w.cell? ⟨p,3,none⟩=some (.slice a3 l.length c3)) (n3:SliceC CpyC 12 lo w a3 l) (hps:SliceC IntC 1 lo2 w pa (plI pl)) (hin:∀ (j t:Nat),pl[j]?=some t→t<l.length) (hsm:pl.length≤1048576) :
  Calls prog 31 #[.pointer (some ⟨p,0,none⟩),.slice pa pl.length pc,.string s] w (Rt (.bool (!pl.any (Mu l s))) w):=by
 have hmf:∀ (fn:Fn) (first cap:Array Value) (w:World),(Instr.makeFunc fn first cap).run prog w=.ok (.func fn first cap) w:=fun _ _ _ _=>rfl
 have hba:=bl2 w #[.pointer (some ⟨p,0,none⟩)] 65 #[.string s] 9;have H1:Hid (((w.alloc (Obj.cells #[.pointer (some ⟨p,0,none⟩)] 65)).alloc (Obj.cells #[.string s] 9)).cell? ⟨w.heap.size,0,none⟩=some (.pointer (some ⟨p,0,none⟩))):=by show _=_;simp
 have H2:Hid (((w.alloc (Obj.cells #[.pointer (some ⟨p,0,none⟩)] 65)).alloc (Obj.cells #[.string s] 9)).cell? ⟨w.heap.size+1,0,none⟩=some (.string s)):=by show _=_;simp
 have hs2:w.heap.size+1<((w.alloc (Obj.cells #[.pointer (some ⟨p,0,none⟩)] 65)).alloc (Obj.cells #[.string s] 9)).heap.size:=by simp
 have hpw:p<w.heap.size:=World.block_lt_of_cell? w _ hp;have HP:=iH ((hba.cell (p:=⟨p,3,none⟩) hpw).trans hp);have N3:=iH (n3.below CpyC.holds hba nL);have HPS:=iH (hps.below IntC.holds hba nL);have HIN:=iH hin;clear hp n3 hps hin;go_enter func31,ntmps31;go_upto_region 1 with fail;generalize (w.alloc (Obj.cells #[.pointer (some ⟨p,0,none⟩)] 65)).alloc (Obj.cells #[.string s] 9)=w0 at *;go_wp2_with fail;refine (Vl 70 #[.pointer (some ⟨w.heap.size,0,none⟩),.pointer (some ⟨w.heap.size+1,0,none⟩)] (Mu l s) pl pa pc lo2 w0 HPS hsm (fun x hx v hv=>?_) (fun _ _=>rfl)).mono ?_
 ·obtain ⟨j,hj⟩:=List.getElem?_of_mem hx
  have hxl:=HIN.out j x hj;obtain ⟨y,hy⟩:=gXe hxl;have hc:=(N3.out.below CpyC.holds hv nL).at hy;have hp3:=(hv.cell (p:=⟨p,3,none⟩) (by show p<w0.heap.size;omega)).trans HP;obtain ⟨b,o,rfl,_,_,a7,c7,q0,q1,q2,q3,q4,q5,q6,q7,q8,q9,q10,q11,_⟩:=hc;have e9:Mu l s x=!decide (y.at_=s):=by unfold Mu;rw [hy]
  rw [e9];exact Yz w.heap.size (w.heap.size+1) p b o l.length c3 x s y.at_ v ((hv.cell (p:=⟨w.heap.size,0,none⟩) (by show w.heap.size<w0.heap.size;omega)).trans H1) ((hv.cell (p:=⟨w.heap.size+1,0,none⟩) hs2).trans H2) hp3 q11 hxl
 rintro e w4 ⟨rfl,hb4⟩;have HB4:=iH (qTr hba hb4);clear hb4 hba;obtain ⟨qq,hqq⟩:∃ q,pl.any (Mu l s)=q:=⟨_,rfl⟩;have HQ:=iH hqq;rw [hqq];clear hqq;cases qq <;> (go_wp2_with fail;go_ret;exact ⟨Ac (by first | rfl | (rw [HQ.out];rfl)),HB4⟩)
end Go.Proofs.YtjoeojhdkoidbaaGreat
namespace Go.Proofs.YtjoeojhdkoidbaaGreat
open Go.RowKit Go.WideMaps Go.Maps Tryz
theorem vH {α:Type} (f:α→Nat):∀ (xs:List α) (x:α),x∈xs→f x≤(xs.map f).sum
 | [],_,h=>by cases h
 | a::r,x,h=>by
  rw [List.map_cons,List.sum_cons];rcases List.mem_cons.1 h with rfl | h
  ·omega
  ·have:=vH f r x h
   omega
theorem oB {α:Type} {f:α→Nat} {xs:List α} {x:α} (h:x∈xs):f x≤wS f xs:=by
 have:=vH f xs x h;unfold wS;omega
theorem mY {x:Flt} (h:Ek x≤1048576):SmB x.berths∧Uj x.services 1048576∧SmC x.copies∧x.services.length≤1048576∧x.berths.length≤1048576∧x.copies.length≤1048576:=by
 unfold Ek at h;have l1:=Ev (f:=Cs) (xs:=x.berths);have l2:=Ev (f:=Dk) (xs:=x.services);have l3:=Ev (f:=Cl) (xs:=x.copies);refine ⟨fun b hb=>?_,fun s hs=>?_,fun c hc=>?_,by omega,by omega,by omega⟩
 ·have h1:=oB (f:=Cs) hb
  have h2:=Ev (f:=ByteArray.size) (xs:=b.marks);have h3:Cs b=b.name.size+b.zone.size+wS ByteArray.size b.marks:=rfl;exact ⟨by omega,fun m hm=>by have:=oB (f:=ByteArray.size) hm;omega,by omega,by omega⟩
 ·have h1:=oB (f:=Dk) hs
  have h3:Dk s=s.name.size:=rfl;omega
 ·have h1:=oB (f:=Cl) hc
  have h2:=Ev (f:=Dn) (xs:=c.likes);have h4:Cl c=c.name.size+c.service.size+c.select.size+wS Dn c.likes+c.near.size+c.fixed.size+c.at_.size:=rfl;exact ⟨by omega,fun m hm=>by have h3:=oB (f:=Dn) hm;have h5:Dn m=m.select.size:=rfl;omega,by omega,by omega,by omega,by omega,by omega,by omega⟩
theorem NwRes.noD {w w':World} (hw:w.heap.size<w'.heap.size) (hb:Below w.heap.size w w'):NwRes noF w (.returned (.agg FfA)) w' :=
 ⟨.none,0,.none,0,.none,0,w.heap.size+1,w'.heap.size,w'.heap.size,rfl,by omega,by omega,hw,Nat.le_refl _,Nat.le_refl _,⟨w',OwnA.nil,Nat.le_refl _,KpB.below (Below.refl _ _)⟩,OwnA.nil,World.ownsRow_nil _ _ _ _,(fun b e=>by cases e),OwnA.nil,hb⟩
theorem eL {w w':World} {base:Nat} {e:TypeId} {size:Nat} {v:Value} {k:Nat} {xs:List Value} (h:w.ownsRow base e size v k xs) (hk:∀ b,v.ownBlock=some b→w'.heap[b]?=w.heap[b]?):w'.ownsRow base e size v k xs:=by
 refine ⟨h.1,?_⟩;rcases h.2 with h2 | ⟨g,cap,cur,h1,hb,hg,h3⟩
 ·exact .inl h2
 ·exact .inr ⟨g,cap,cur,h1,hb,(hk g (by rw [h1];rfl)).trans hg,h3⟩
theorem NwRes.done {x r:Flt} {w w4 w5 w9:World} {g1:OA} {q1:Nat} {g2:OA} {q2 G q3 B1 B2 B3:Nat} (hB:Below w.heap.size w w4) (e0:r.pack=x.pack) (e1:r.berths=x.berths) (e2:r.services=x.services) (el:r.copies.length=x.copies.length) (h0:0<B1) (h1:w4.heap.size≤B1) (h2:B1≤B2) (h3:B2≤B3) (h4:B3≤w5.heap.size) (hG:B3≤G)
  (hT:OwnT vBr Brt.marks StrC 1 6 2 60 B1 B2 w5 (.slice g1 x.berths.length q1) x.berths) (hs:w5.ownsRow B2 103 2 (.slice g2 x.services.length q2) x.services.length (Dw x.services)) (ht:∀ b,(Value.slice g2 x.services.length q2).ownBlock=some b→b<B3)
  (hc:Oi B3 w9 (.slice (some ⟨G,0,none⟩) r.copies.length q3) r.copies) (hk:∀ k,B1≤k→k<w5.heap.size→k≠G→w9.heap[k]?=w5.heap[k]?) (hz:w5.heap.size≤w9.heap.size) (hb9:Below w.heap.size w w9) :
  NwRes r w (.returned (.agg (ffA x g1 q1 g2 q2 (some ⟨G,0,none⟩) q3))) w9:=by
 have hT9:OwnT vBr Brt.marks StrC 1 6 2 60 B1 B2 w9 (.slice g1 x.berths.length q1) x.berths:=hT.keep hz (fun k a b c=>hk k a c (by omega));have hs9:=eL (w':=w9) hs (fun b hb=>hk b (by have:=(hs.lt b hb).1;omega) (hs.lt b hb).2 (by have:=ht b hb;omega));have hw:=hB.size;refine ⟨g1,q1,g2,q2,some ⟨G,0,none⟩,q3,B1,B2,B3,by rw [e0,e1,e2,el],h0,by omega,h2,h3,by omega,?_⟩;rw [e1,e2];exact ⟨hT9,hT9.own StrC.holds,hs9,ht,hc,hb9⟩
theorem jV {w:World} {a:Addr} {v:Value} (h:w.cell? a=some v):∃ cs t f,w.heap[a.block]?=some (Obj.cells cs t f):=by
 unfold World.cell? at h
 split at h
 ·rename_i c t f hc
  exact ⟨c,t,f,hc⟩
 ·cases h
theorem Px {H:Type} {P:Program} {k:TypeId} {R:Value→Option (DataW H×List MemPlace)} {m n G:Nat} {D:DataW H} {w:World} (h:w.ownsMap P k R m n D) (hG:∃ cs t f,w.heap[G]?=some (Obj.cells cs t f)) (o:Nat) (vs:List Value):(w.setCells G o vs).ownsMap P k R m n D:=by
 have hne:=Mi h hG;obtain ⟨es,clock,h1,h2,h3,h4⟩:=h;exact ⟨es,clock,(Bp hne vs o w).trans h1,h2,h3,h4⟩
theorem nI {p m1 m2 m3 m4:Nat} {x:Flt} {a1:OA} {c1:Nat} {a2:OA} {c2:Nat} {a3:OA} {c3:Nat} {w:World} (h:FoundZ p m1 m2 m3 m4 x a1 c1 a2 c2 a3 c3 w):w.there p 0 4:=by
 intro j hj;refine ⟨?_,h.2 _⟩;have hj':j=0∨j=1∨j=2∨j=3:=by omega
 rcases hj' with rfl | rfl | rfl | rfl
 ·rw [h.1.1 0 _ rfl];rfl
 ·rw [h.1.1 1 _ rfl];rfl
 ·rw [h.1.1 2 _ rfl];rfl
 ·rw [h.1.1 3 _ rfl];rfl
theorem FoundZ.fleet {p m1 m2 m3 m4:Nat} {x:Flt} {a1:OA} {c1:Nat} {a2:OA} {c2:Nat} {a3:OA} {c3:Nat} {w:World} (h:FoundZ p m1 m2 m3 m4 x a1 c1 a2 c2 a3 c3 w) (g1:OA) (q1:Nat) (g2:OA) (q2:Nat) (g3:OA) (q3:Nat):Found p m1 m2 m3 m4 x g1 q1 g2 q2 g3 q3 (w.setCells p 0 (ffL x g1 q1 g2 q2 g3 q3)):=by
 have hG:=jV (h.1.1 0 _ rfl);have ht:=nI h;obtain ⟨⟨h1,h2,h3,h4,h5,h6⟩,_⟩:=h;refine ⟨fun j v hj=>?_,by rw [Bc];exact h2,Px h3 hG _ _,Px h4 hG _ _,Px h5 hG _ _,?_⟩
 ·by_cases hl:j<4
  ·refine World.rangeAt_setCells_same w p 0 (ffL x g1 q1 g2 q2 g3 q3) ht j v ?_
   have hj':j=0∨j=1∨j=2∨j=3:=by omega
   rcases hj' with rfl | rfl | rfl | rfl <;> exact hj
  ·rw [World.cell?_setCells_out p _ 0 w _ (fun _ _=>.inr (by show 0+4≤0+j;omega))]
   refine h1 j v ?_;have hj2:=Ah hj;have hj':j=4∨j=5∨j=6∨j=7:=by simp at hj2;omega
   rcases hj' with rfl | rfl | rfl | rfl <;> exact hj
 ·have hne:m4≠p:=by
   rintro rfl;obtain ⟨cs,t,f,g⟩:=hG;have g':w.heap[m4]?=some (Obj.cells cs t f):=g;rw [h6] at g';cases g'
  exact (Bp hne _ _ w).trans h6
theorem Pw {lo:Nat} {w:World} {a:OA} {l:List Cpy} (h:SliceC CpyC 12 lo w a l):SzC l:=by
 intro c hc;obtain ⟨i,hi⟩:=List.getElem?_of_mem hc;obtain ⟨_,_,_,_,_,a7,c7,_,_,_,_,_,_,_,_,_,_,_,_,z0,z1,z6,z9,z10,z11,_⟩:=h.at hi;exact ⟨z0,z1,z6,z9,z10,z11⟩
theorem uD {lo:Nat} {w:World} {a:OA} {l:List Brt} (h:SliceC BrtC 6 lo w a l):SzB l:=by
 intro c hc;obtain ⟨i,hi⟩:=List.getElem?_of_mem hc;obtain ⟨_,_,_,_,_,a7,c7,_,_,_,_,_,_,z0,z1,_⟩:=h.at hi;exact ⟨z0,z1⟩
theorem Wu {x:Flt} {cn bn:BA} {ci bi:Nat} {b:Brt} (h:Iq x cn bn=some (ci,bi)) (hb:x.berths[bi]?=some b):b.name=bn:=by
 unfold Iq at h
 split at h
 ·split at h
  ·rename_i e1 e2
   cases h
   have h9:=(Dj e2).2;rw [Dl hb] at h9;cases h9
   rfl
  ·cases h
 ·cases h
theorem pI {l:List Cpy} {s:BA} {pl:List Nat} (h:pl.any (Mu l s)=false):∀ q,q∈pl→∀ c,l[q]?=some c→c.at_=s:=by
 intro q hq c hc;have h9:=List.any_eq_false.1 h q hq;unfold Mu at h9;rw [hc] at h9;simpa using h9
theorem kY {l:List Cpy} {s:BA} {pl:List Nat} (h:pl.any (Mu l s)=true):¬ ∀ q,q∈pl→∀ c,l[q]?=some c→c.at_=s:=by
 intro h2;obtain ⟨q,hq,h9⟩:=List.any_eq_true.1 h;unfold Mu at h9
 split at h9
 ·rename_i c hc
  rw [h2 q hq c hc] at h9;simp at h9
 ·cases h9
theorem noW {w wc:World} (hz:Blk (w.heap.size+2) FfA 36 wc) (hb:Below w.heap.size w wc):∃ wf,Hid (wf=wc.setCells (w.heap.size+2) 0 FfL)∧Hid (wc.there (w.heap.size+2) 0 4)∧Hid (wf.rangeAt (w.heap.size+2) 0 FfL)∧Hid (Below w.heap.size w wf∧w.heap.size<wf.heap.size) :=
 ⟨_,rfl,hz.there,World.rangeAt_setCells_same wc (w.heap.size+2) 0 _ hz.there,Ad (by omega) _ _ _ hb,by rw [Bc];have:=hz.lt;omega⟩
def vI (x:Flt) (s:Stp) (w:World) (e:Ending) (w':World):Prop:=∃ u r t,e=.returned (.tuple #[u,.bool t])∧DoRes x s r t∧NwRes r w (.returned u) w'
end Go.Proofs.YtjoeojhdkoidbaaGreat
