import Derived.Test.YtkiloaiffopllaaGreatMte
import Derived.Test.YtkiloaiffopllaaGreatJ14
set_option maxHeartbeats 8000000
namespace Go.Proofs.YtkiloaiffopllaaGreat
set_option maxRecDepth 100000
open Go.RowKit
def Gz (x:Wnt):List Value:=(wwL x)
def Ct:List Wnt→List Value
 | []=>[]
 | x::r=>Gz x++Ct r
theorem Fc (x:Wnt):(Gz x).length=7:=rfl
theorem Ez:∀ xs:List Wnt,(Ct xs).length=xs.length*7
 | []=>rfl
 | x::r=>by
  have:=Ez r;simp only [Ct,List.length_append,List.length_cons,Fc];omega
theorem Ka:∀ (xs:List Wnt) (k:Nat) (x:Wnt) (j:Nat),xs[k]?=some x→j<7→(Ct xs)[k*7+j]?=(Gz x)[j]?
 | [],_,_,_,h,_=>by simp at h
 | y::r,0,x,j,h,hj=>by
  simp at h;subst h;simp only [Ct];rw [List.getElem?_append_left (by rw [Fc];omega)];simp
 | y::r,k+1,x,j,h,hj=>by
  simp at h;simp only [Ct];rw [List.getElem?_append_right (by rw [Fc];omega),Fc,show (k+1)*7+j - 7=k*7+j by omega];exact Ka r k x j h hj
theorem Mx:∀ (xs:List Wnt) (k:Nat) (x:Wnt),xs[k]?=some x→Ce (Ct xs) (k*7) (Gz x)=Ct xs
 | [],_,_,h=>by simp at h
 | z::r,0,x,h=>by
  simp at h;subst h;rfl
 | z::r,k+1,x,h=>by
  simp at h;simp only [Ct];rw [Fg _ _ _ _ (by rw [Fc];omega),Fc,show (k+1)*7 - 7=k*7 by omega,Mx r k x h]
theorem Ic:∀ (xs:List Wnt),∀ u∈Ct xs,u.oneCell'=true
 | [],u,h=>by cases h
 | x::r,u,h=>by
  simp only [Ct,List.mem_append] at h;rcases h with h | h
  ·have:∀ v∈Gz x,v.oneCell'=true:=by
    intro v hv;simp only [Gz,List.mem_cons,List.not_mem_nil,or_false] at hv;rcases hv with rfl | rfl | rfl | rfl | rfl | rfl | rfl <;> rfl
   exact this u h
  ·exact Ic r u h
theorem Qx {lo:Nat} {w:World} {f:Nat→Option Value} {x:Wnt} (h:WntC lo w f x) (j:Nat) (v:Value) (hv:(Gz x)[j]?=some v):f j=some v:=by
 obtain ⟨q0,q1,q2,q3,q4,q5,q6,_,_⟩:=h;have hj:j<7:=Ah hv;have hc:j=0∨j=1∨j=2∨j=3∨j=4∨j=5∨j=6:=by omega
 rcases hc with rfl | rfl | rfl | rfl | rfl | rfl | rfl <;> (cases hv;assumption)
theorem Sr {lo:Nat} {w:World} {f:Nat→Option Value} {x:Wnt} (h:∀ j v,(Gz x)[j]?=some v→f j=some v) (z0:x.copy.size≤maxLen) (z2:x.hold.size≤maxLen):WntC lo w f x :=
 ⟨h 0 _ rfl,h 1 _ rfl,h 2 _ rfl,h 3 _ rfl,h 4 _ rfl,h 5 _ rfl,h 6 _ rfl,z0,z2⟩
theorem Qd {lo:Nat} {w:World} {b o:Nat} {xs:List Wnt} (h:SliceC WntC 7 lo w (some ⟨b,o,none⟩) xs) (j:Nat) (u:Value) (hu:(Ct xs)[j]?=some u):w.cell? ((⟨b,o,none⟩:Addr).add j)=some u:=by
 have hl:j<xs.length*7:=by have:=Ah hu;rwa [Ez] at this
 obtain ⟨x,hx⟩:∃ x,xs[j / 7]?=some x:=⟨xs[j / 7]'(by omega),gE (by omega)⟩;obtain ⟨b',o',e,_,_,hc⟩:=h.at hx;cases e
 rw [show j=j / 7*7+j % 7 by omega,Ka xs (j / 7) x (j % 7) hx (by omega)] at hu;have:=Qx hc (j % 7) u hu;rw [Addr.add_mid,show o+j=o+j / 7*7+j % 7 by omega];exact this
def Sy (xs:List Wnt) (m:Nat):Prop:=∀ x∈xs,x.copy.size≤m∧x.hold.size≤m
theorem Ml {base cap:Nat} {a:OA} {w:World} {xs:List Wnt} (h:w.ownsRow base 86 7 (.slice a xs.length cap) xs.length (Ct xs)) (hm:xs.length≤1048576) (hz:Sy xs 1048576):SliceC WntC 7 base w a xs:=by
 rcases h.2 with ⟨h1,_⟩ | ⟨g',cap',cur,h1,_⟩
 ·have:xs.length=0:=by injection h1
  rw [List.length_eq_zero_iff.1 this];exact SliceC.nil
 ·have e:a=some ⟨g',0,none⟩:=by injection h1
  subst e;refine ⟨by unfold maxLen;omega,.inr ⟨g',0,rfl,⟨Ob h,fun _ p=>h.frozenAt p⟩,(h.lt g' rfl).2,fun k x hk=>?_⟩⟩;have hlt:=Ah hk;have hzz:=hz x (List.mem_of_getElem? hk);refine Sr (fun j v hv=>?_) (by unfold maxLen;omega) (by unfold maxLen;omega);have hj:j<7:=Ah hv;show w.cell? ⟨g',0+k*7+j,none⟩=some v
  have:=h.cellAt (k*7+j) (by omega);rw [Nat.zero_add];rw [this,Ka xs k x j hk hj];exact hv
theorem Wq (xs:List Wnt) (b ob cap lo:Nat) (w:World) (hin:SliceC WntC 7 lo w (some ⟨b,ob,none⟩) xs) (hsm:xs.length≤1048576) :
  Calls Tryz.prog 105 #[.slice (some ⟨b,ob,none⟩) xs.length cap] w fun e w'=>∃ g c,e=.returned (.slice (some ⟨g,0,none⟩) xs.length c)∧w'.ownsRow w.heap.size 86 7 (.slice (some ⟨g,0,none⟩) xs.length c) xs.length (Ct xs)∧Below w.heap.size w w':=by
 obtain ⟨i0,hi,hz0,hz1,hz2⟩:=info_parts Jv;have q22:∀ (w:World) (a:OA) (n c n' c':Nat),(binOp .eql 28 (.slice a n c) (.slice none n' c')).run Tryz.prog w=.ok (.bool a.isNone) w:=fun w a n c n' c'=>Lib.run_eql_slice_nil w _ _ a n c n' c' Tryz.underlying28
 have HS:Hid (∀ j u,(Ct xs)[j]?=some u→w.cell? ((⟨b,ob,none⟩:Addr).add j)=some u):=Qd hin;clear hin;go_enter Tryz.func105,Tryz.ntmps105;go_wp2_with (at_builtin;refine wpList_append_own _ rfl _ _ 28 rfl w.heap.size 86 i0 _ 7 72 Tryz.underlying28 hi hz0 hz1 hz2 rfl (by decide) _ _ _ rfl (World.ownsRow_made w #[] 0 nL (zL) rfl) ⟨b,ob,none⟩ xs.length _ (Ct xs) rfl (by rw [Ez]) (fun j u hj=>Lib.cell?_alloc_some _ (HS j u hj)) (Ic xs) (by unfold maxLen;omega) (by omega) (by simp) ?_;intro v' w1 hown hgrow hnil);have hv:v'≠.slice none 0 0:=fun e=>by have:=(hnil.1 e).1;cases this
 have hown':w1.ownsRow w.heap.size 86 7 v' xs.length (Ct xs):=by simpa using hown
 obtain ⟨g,c,rfl⟩:=Co hown' hv;have HO:=iH hown';have hB:Below w.heap.size w w1:=((Below.refl _ w).alloc nL _).grown hgrow (by simp) (by intro k hk;cases hk;exact Nat.le_refl _);clear hown hgrow hnil hv hown';go_wp2_with fail;go_ret;exact ⟨g,c,rfl,HO,hB⟩
theorem Tn (cap:Nat) (w:World) :
  Calls Tryz.prog 105 #[.slice none 0 cap] w (Rt (.slice none 0 0) w):=by
 have q22:∀ (w:World) (a:OA) (n c n' c':Nat),(binOp .eql 28 (.slice a n c) (.slice none n' c')).run Tryz.prog w=.ok (.bool a.isNone) w:=fun w a n c n' c'=>Lib.run_eql_slice_nil w _ _ a n c n' c' Tryz.underlying28
 go_enter Tryz.func105,Tryz.ntmps105;go_wp2_with fail;go_ret;exact ⟨rfl,Below.refl _ _⟩
theorem Lz (f:Value) (cap:Nat) (w:World) :
  Calls Tryz.prog 68 #[.slice none 0 cap,f] w (Rt (.slice none 0 0) w):=by
 go_enter Tryz.func68,Tryz.ntmps68;go_wp2_with fail;refine (Tn cap _).mono ?_;rintro e w1 ⟨rfl,hb⟩;have HB:=iH hb;clear hb;go_wp2_with fail;go_loopw [11] (fun i wr=>i=.int .i64 0∧Below w.heap.size w wr) (fun i _=>0)
 case atStart=>exact ⟨rfl,HB⟩
 case round =>
  obtain ⟨rfl,hB⟩:=hrel;go_wp2_with fail;go_ret;exact ⟨rfl,hB⟩
theorem Xb (xs:List Wnt) (b ob cap lo:Nat) (w:World) (hin:SliceC WntC 7 lo w (some ⟨b,ob,none⟩) xs) (hsm:xs.length≤1048576) (hz:Sy xs 1048576) :
  Calls Tryz.prog 68 #[.slice (some ⟨b,ob,none⟩) xs.length cap,.func (.func 69) #[] #[]] w fun e w'=>∃ g q,e=.returned (.slice (some ⟨g,0,none⟩) xs.length q)∧w'.ownsRow w.heap.size 86 7 (.slice (some ⟨g,0,none⟩) xs.length q) xs.length (Ct xs)∧Below w.heap.size w w':=by
 have HI:=iH hin;have HZ:=iH hz;clear hin hz;go_enter Tryz.func68,Tryz.ntmps68;go_wp2_with fail;refine (Wq xs b ob cap lo _ HI hsm).mono ?_;rintro e w1 ⟨g,q,rfl,hO1,hB1⟩;have HO1:=iH hO1;clear hO1;go_wp2_with fail;go_loopw [11] (fun i wr=>∃ k:Nat,k≤xs.length∧i=.int .i64 k∧Hid (wr.ownsRow w.heap.size 86 7 (.slice (some ⟨g,0,none⟩) xs.length q) xs.length (Ct xs))∧Below w.heap.size w wr) (fun i _=>xs.length - (intOf i).toNat)
 case atStart=>exact ⟨0,zL,rfl,HO1,hB1⟩
 case round =>
  clear HO1 hB1;obtain ⟨k,hk,rfl,HO,hB⟩:=hrel;by_cases hlt:k<xs.length
  ·obtain ⟨x,hx⟩:=gXe hlt
   have HXX:=iH hx;have Z:=iH (HZ x (List.mem_of_getElem? hx));have hgl:g<wr.heap.size:=(HO.out.lt g rfl).2;have hgb:w.heap.size≤g:=Ob HO;have HRA:Hid (wr.rangeAt g (k*7) (wwL x)):=fun j v hv=>by
    have hj:j<7:=Ah hv;have h1:=HO.out.cellAt (k*7+j) (by omega);rw [Ka _ k x j hx hj] at h1;exact h1.trans hv
   clear hx;have hza:=Blk.alloc wr WwA 86;have HTS:Hid ((wr.alloc (Obj.cells WwA 86)).there wr.heap.size 0 7):=hza.there;obtain ⟨w4,HW4⟩:∃ w4,Hid (w4=(wr.alloc (Obj.cells WwA 86)).setCells wr.heap.size 0 (wwL x)):=⟨_,rfl⟩;have HK4:Hid (Blk wr.heap.size (wwA x) 86 w4):=by
    show Blk _ _ _ _
    rw [HW4.out];exact hza.setAll (wwA x) rfl
   have hbx:Below wr.heap.size wr w4:=by
    rw [HW4.out];exact Aa nL _ _ _ ((Below.refl _ wr).alloc nL _)
   have hB4:=qTr hB hbx;have HO4:=iH (Ae HO hbx);clear hza hbx HO hB;go_upto_region 5 with (first | (refine qLr Gr HRA ?_) | (refine Ab rfl 86 _ _ rfl wr.heap.size 0 (wwA x) rfl rfl HTS Au (by simp [Value.oneCell']) w4 HW4 ?_));clear HRA HTS HW4;go_wp2_with (first | (refine qLk Gr HK4 ?_));refine (Pj x _ Z.out.1 Z.out.2).mono ?_;rintro e w5 ⟨rfl,hb5⟩;have HO5:=iH (Ae HO4 hb5);have hB5:=qTr hB4 hb5;clear hb5 hB4 HO4 HK4;have HT5:Hid (w5.there g (k*7) 7):=Cg HO5 (by rw [Ez];omega);obtain ⟨w6,HW6⟩:∃ w6,Hid (w6=w5.setCells g (k*7) (Gz x)):=⟨_,rfl⟩;have HO6:Hid (w6.ownsRow w.heap.size 86 7 (.slice (some ⟨g,0,none⟩) xs.length q) xs.length (Ct xs)):=by
    have h:=Cp (Gz x) _ (k*7) _ HO5;rw [Mx xs k x HXX.out,← HW6.out] at h;exact h
   have hB6:Below w.heap.size w w6:=by
    rw [HW6.out];exact Aa hgb _ _ _ hB5
   unfold Gz at HW6;clear hB5 HO5;have i0:(0:Int)≤(k:Int):=by omega
   have i1:(k:Int)<(xs.length:Int):=by omega
   go_wp2_with (first | (refine Ab rfl 86 _ _ rfl g (k*7) (wwA x) (by first | rfl | (simp [go_sem];done)) rfl HT5 Au (by simp [Value.oneCell']) w6 HW6 ?_));go_roundw
   case rel=>exact ⟨k+1,by omega,by go_num,HO6,hB6⟩
   case measure=>simp [intOf];omega
  ·have hke:k=xs.length:=by omega
   subst hke;go_wp2_with fail;go_ret;exact ⟨g,q,rfl,HO,hB⟩
def Und (a:OA) (h:Nat):Prop:=∀ b o s,a=some ⟨b,o,s⟩→b<h
theorem Und.mono {a:OA} {h h':Nat} (u:Und a h) (l:h≤h'):Und a h':=fun b o s e=>lL (u b o s e) l
def G4 (x:Mte) (lo hi:Nat) (b5 b6 b7 b8:OA) (w:World):Prop:=∃ h5 h6 h7,lo≤h5∧h5≤h6∧h6≤h7∧h7≤hi∧hi≤w.heap.size∧Und b5 h5∧Und b6 h6∧Und b7 h7∧Und b8 hi∧SliceC WntC 7 lo w b5 x.wants∧SliceC RnC 11 h5 w b6 x.runs∧SliceC AksC 4 h6 w b7 x.asks∧SliceC AksC 4 h7 w b8 x.gives
structure MSz (x:Mte):Prop where
 nm:x.name.size≤1048576
 z5:Sy x.wants 1048576
 z6:Iv x.runs 1048576
 z7:It x.asks 1048576
 z8:It x.gives 1048576
 l5:x.wants.length≤1048576
 l6:x.runs.length≤1048576
 l7:x.asks.length≤1048576
 l8:x.gives.length≤1048576
theorem Uv {α:Type} (f:α→Nat):∀ (xs:List α) (x:α),x∈xs→f x≤(xs.map f).sum
 | [],_,h=>by cases h
 | y::r,x,h=>by
  simp only [List.map_cons,List.sum_cons];rcases List.mem_cons.1 h with rfl | h
  ·omega
  ·have:=Uv f r x h
   omega
theorem Qp {α:Type} {f:α→Nat} {xs:List α} {x:α} (h:x∈xs):f x≤wS f xs:=by
 have:=Uv f xs x h;unfold wS;omega
theorem MSz.of {x:Mte} (h:Cy x≤1048576):MSz x where
 nm:=by unfold Cy at h;omega
 z5:=fun y hy=>by
  have h2:Cx y≤wS Cx x.wants:=Qp hy;have h3:y.copy.size+y.hold.size≤Cx y:=Nat.le_refl _;unfold Cy at h;omega
 z6:=fun y hy=>by
  have h2:wRn y≤wS wRn x.runs:=Qp hy;have h3:y.want.copy.size+y.want.hold.size≤wRn y:=Nat.le_refl _;unfold Cy at h;omega
 z7:=fun y hy=>by
  have h2:Cq y≤wS Cq x.asks:=Qp hy;have h3:y.hold.size+y.copy.size≤Cq y:=Nat.le_refl _;unfold Cy at h;omega
 z8:=fun y hy=>by
  have h2:Cq y≤wS Cq x.gives:=Qp hy;have h3:y.hold.size+y.copy.size≤Cq y:=Nat.le_refl _;unfold Cy at h;omega
 l5:=by have:=Ff (f:=Cx) (xs:=x.wants);unfold Cy at h;omega
 l6:=by have:=Ff (f:=wRn) (xs:=x.runs);unfold Cy at h;omega
 l7:=by have:=Ff (f:=Cq) (xs:=x.asks);unfold Cy at h;omega
 l8:=by have:=Ff (f:=Cq) (xs:=x.gives);unfold Cy at h;omega
structure MSv (x:Mte) (lo:Nat) (a5 a6 a7 a8:OA) (w:World):Prop where
 s5:SliceC WntC 7 lo w a5 x.wants
 s6:SliceC RnC 11 lo w a6 x.runs
 s7:SliceC AksC 4 lo w a7 x.asks
 s8:SliceC AksC 4 lo w a8 x.gives
 p5:∀ b o s,a5=some ⟨b,o,s⟩→s=none
 p6:∀ b o s,a6=some ⟨b,o,s⟩→s=none
 p7:∀ b o s,a7=some ⟨b,o,s⟩→s=none
 p8:∀ b o s,a8=some ⟨b,o,s⟩→s=none
theorem Cw {base n cap:Nat} {a:OA} {w:World} {e:TypeId} {s:Nat} {cs:List Value} (h:w.ownsRow base e s (.slice a n cap) n cs):Und a w.heap.size:=by
 intro b o sp ea;rcases h.2 with ⟨h1,_⟩ | ⟨g',cap',cur,h1,_⟩
 ·rw [ea] at h1
  cases h1
 ·have e2:a=some ⟨g',0,none⟩:=by injection h1
  rw [e2] at ea;cases ea
  have h':w.ownsRow base e s (.slice (some ⟨b,0,none⟩) n cap) n cs:=e2▸h;exact (h'.lt b rfl).2
theorem Ti (xs:List Wnt) (a:OA) (cap lo:Nat) (w:World) (hin:SliceC WntC 7 lo w a xs) (hsm:xs.length≤1048576) (hz:Sy xs 1048576) (ha:∀ b o s,a=some ⟨b,o,s⟩→s=none) :
  Calls Tryz.prog 68 #[.slice a xs.length cap,.func (.func 69) #[] #[]] w fun e w'=>∃ b q,e=.returned (.slice b xs.length q)∧w'.ownsRow w.heap.size 86 7 (.slice b xs.length q) xs.length (Ct xs)∧Below w.heap.size w w':=by
 cases a with
 | none =>
  have hx:xs=[]:=by
   rcases hin.2 with h | ⟨b,o,e,_⟩
   ·exact h
   ·cases e
  subst hx;exact (Lz _ cap w).mono fun e w' h=>⟨none,0,h.1,World.ownsRow_nil _ _ _ _,h.2⟩
 | some ad =>
  obtain ⟨b,o,s⟩:=ad;obtain rfl:=ha b o s rfl;exact (Xb xs b o cap lo w hin hsm hz).mono fun e w' ⟨g,q,h1,h2,h3⟩=>⟨some ⟨g,0,none⟩,q,h1,h2,h3⟩
theorem Wb (xs:List Rn) (a:OA) (cap lo:Nat) (w:World) (hin:SliceC RnC 11 lo w a xs) (hsm:xs.length≤1048576) (hz:Iv xs 1048576) (ha:∀ b o s,a=some ⟨b,o,s⟩→s=none) :
  Calls Tryz.prog 70 #[.slice a xs.length cap,.func (.func 71) #[] #[]] w fun e w'=>∃ b q,e=.returned (.slice b xs.length q)∧w'.ownsRow w.heap.size 88 11 (.slice b xs.length q) xs.length (Aq xs)∧Below w.heap.size w w':=by
 cases a with
 | none =>
  have hx:xs=[]:=by
   rcases hin.2 with h | ⟨b,o,e,_⟩
   ·exact h
   ·cases e
  subst hx;exact (Pb _ cap w).mono fun e w' h=>⟨none,0,h.1,World.ownsRow_nil _ _ _ _,h.2⟩
 | some ad =>
  obtain ⟨b,o,s⟩:=ad;obtain rfl:=ha b o s rfl;exact (Yi xs b o cap lo w hin hsm hz).mono fun e w' ⟨g,q,h1,h2,h3⟩=>⟨some ⟨g,0,none⟩,q,h1,h2,h3⟩
theorem Nd (xs:List Aks) (a:OA) (cap lo:Nat) (w:World) (hin:SliceC AksC 4 lo w a xs) (hsm:xs.length≤1048576) (hz:It xs 1048576) (ha:∀ b o s,a=some ⟨b,o,s⟩→s=none) :
  Calls Tryz.prog 72 #[.slice a xs.length cap,.func (.func 73) #[] #[]] w fun e w'=>∃ b q,e=.returned (.slice b xs.length q)∧w'.ownsRow w.heap.size 52 4 (.slice b xs.length q) xs.length (An xs)∧Below w.heap.size w w':=by
 cases a with
 | none =>
  have hx:xs=[]:=by
   rcases hin.2 with h | ⟨b,o,e,_⟩
   ·exact h
   ·cases e
  subst hx;exact (Ur _ cap w).mono fun e w' h=>⟨none,0,h.1,World.ownsRow_nil _ _ _ _,h.2⟩
 | some ad =>
  obtain ⟨b,o,s⟩:=ad;obtain rfl:=ha b o s rfl;exact (Wp xs b o cap lo w hin hsm hz).mono fun e w' ⟨g,q,h1,h2,h3⟩=>⟨some ⟨g,0,none⟩,q,h1,h2,h3⟩
theorem Fp (x:Mte) (a5:OA) (c5:Nat) (a6:OA) (c6:Nat) (a7:OA) (c7:Nat) (a8:OA) (c8:Nat) (lo:Nat) (w:World) (hin:MSv x lo a5 a6 a7 a8 w) (hm:MSz x) :
  Calls Tryz.prog 29 #[.agg (mmA x a5 c5 a6 c6 a7 c7 a8 c8)] w fun e w'=>∃ b5 q5 b6 q6 b7 q7 b8 q8,e=.returned (.agg (mmA x b5 q5 b6 q6 b7 q7 b8 q8))∧G4 x w.heap.size w'.heap.size b5 b6 b7 b8 w'∧Below w.heap.size w w':=by
 have HI:=iH hin;have HM:=iH hm;have HA5:=iH hin.p5;have HA6:=iH hin.p6;have HA7:=iH hin.p7;have HA8:=iH hin.p8;clear hin hm;have HKa:=Blk.alloc w (mmA x a5 c5 a6 c6 a7 c7 a8 c8) 32;have HZ2:=al2 w (mmA x a5 c5 a6 c6 a7 c7 a8 c8) 32 MmA 32;have HK2:=iH (HKa.below ((Below.refl _ _).alloc nL (Obj.cells MmA 32)) HKa.lt);have hB2:=bl2 w (mmA x a5 c5 a6 c6 a7 c7 a8 c8) 32 MmA 32;clear HKa;go_enter Tryz.func29,Tryz.ntmps29;go_upto_region 1 with fail;generalize (w.alloc (Obj.cells (mmA x a5 c5 a6 c6 a7 c7 a8 c8) 32)).alloc (Obj.cells MmA 32)=w2 at *;have k0:w2.cell? ⟨w.heap.size,0,none⟩=some (.string x.name):=HK2.out.cell rfl;go_wp2_with fail;refine (Fi x.name _ HM.out.nm).mono ?_;rintro e w3 ⟨rfl,hb3⟩;have HK3:=qBk HK2 hb3;have HZ3:=qBk HZ2 hb3;have hB3:=qTr hB2 hb3;clear hb3 HK2 HZ2 hB2 k0;have kx:w3.cell? ⟨w.heap.size,0,none⟩=some (.string x.name):=HK3.out.cell rfl;have fx:w3.frozen? ⟨w.heap.size,0,none⟩=false:=HK3.out.frozen _;have HK4:Hid (Blk w.heap.size (mmA x a5 c5 a6 c6 a7 c7 a8 c8) 32 (w3.setCell ⟨w.heap.size,0,none⟩ (.string x.name))):=HK3.out.set 0 _;have HZ4:Hid (Blk (w.heap.size+1) MmA 32 (w3.setCell ⟨w.heap.size,0,none⟩ (.string x.name))):=HZ3.out.other (a:=⟨w.heap.size,0,none⟩) (show w.heap.size+1≠w.heap.size by omega) _;have hB4:Below w.heap.size w (w3.setCell ⟨w.heap.size,0,none⟩ (.string x.name)):=hB3.setCell (p:=⟨w.heap.size,0,none⟩) nL _;have hsz4:w3.heap.size≤(w3.setCell ⟨w.heap.size,0,none⟩ (.string x.name)).heap.size:=by simp [World.setCell]
 clear HK3 HZ3 hB3;go_upto_region 2 with fail;clear kx fx;generalize (w3.setCell ⟨w.heap.size,0,none⟩ (.string x.name))=w4 at *;have k5:w4.cell? ⟨w.heap.size,5,none⟩=some (.slice a5 x.wants.length c5):=HK4.out.cell rfl;go_wp2_with fail;clear k5;refine (Ti x.wants a5 c5 lo _ (HI.out.s5.below WntC.holds hB4 nL) HM.out.l5 HM.out.z5 HA5).mono ?_;rintro e w5 ⟨b5,q5,rfl,ho,hb⟩;have hU5:=Cw ho;obtain ⟨h5,hh5⟩:∃ h,h=w4.heap.size:=⟨_,rfl⟩;have P5:Hid (SliceC WntC 7 h5 w5 b5 x.wants):=by rw [hh5];exact Ml ho HM.out.l5 HM.out.z5
 have hgl5:w.heap.size+1<w4.heap.size:=HZ4.out.lt;have hlt5:w.heap.size+1<h5:=by rw [hh5];exact hgl5
 have HK5:=qBk HK4 hb;have HZ5:=qBk HZ4 hb;have hB5:=qTr hB4 hb;have hs5:=hb.size;clear ho hb HK4 HZ4 hB4 hgl5;have kx:w5.cell? ⟨w.heap.size,5,none⟩=some (.slice a5 x.wants.length c5):=HK5.out.cell rfl;have fx:w5.frozen? ⟨w.heap.size,5,none⟩=false:=HK5.out.frozen _;have HK6:Hid (Blk w.heap.size (mmA x b5 q5 a6 c6 a7 c7 a8 c8) 32 (w5.setCell ⟨w.heap.size,5,none⟩ (.slice b5 x.wants.length q5))):=HK5.out.set 5 _;have HZ6:Hid (Blk (w.heap.size+1) MmA 32 (w5.setCell ⟨w.heap.size,5,none⟩ (.slice b5 x.wants.length q5))):=HZ5.out.other (a:=⟨w.heap.size,5,none⟩) (show w.heap.size+1≠w.heap.size by omega) _;have hB6:Below w.heap.size w (w5.setCell ⟨w.heap.size,5,none⟩ (.slice b5 x.wants.length q5)):=hB5.setCell (p:=⟨w.heap.size,5,none⟩) nL _;replace P5:Hid (SliceC WntC 7 h5 (w5.setCell ⟨w.heap.size,5,none⟩ (.slice b5 x.wants.length q5)) b5 x.wants):=P5.out.keep WntC.holds (Keeps.set (a:=⟨w.heap.size,5,none⟩) (show w.heap.size<h5 by omega) _) nL;have hsz6:w5.heap.size≤(w5.setCell ⟨w.heap.size,5,none⟩ (.slice b5 x.wants.length q5)).heap.size:=by simp [World.setCell]
 clear HK5 HZ5 hB5;go_upto_region 3 with fail;clear kx fx;generalize (w5.setCell ⟨w.heap.size,5,none⟩ (.slice b5 x.wants.length q5))=w6 at *;have k6:w6.cell? ⟨w.heap.size,6,none⟩=some (.slice a6 x.runs.length c6):=HK6.out.cell rfl;go_wp2_with fail;clear k6;refine (Wb x.runs a6 c6 lo _ (HI.out.s6.below RnC.holds hB6 nL) HM.out.l6 HM.out.z6 HA6).mono ?_;rintro e w7 ⟨b6,q6,rfl,ho,hb⟩;have hU6:=Cw ho;obtain ⟨h6,hh6⟩:∃ h,h=w6.heap.size:=⟨_,rfl⟩;have P6:Hid (SliceC RnC 11 h6 w7 b6 x.runs):=by rw [hh6];exact Dl ho HM.out.l6 HM.out.z6
 replace P5:=qSl WntC.holds P5 hb;have hgl6:w.heap.size+1<w6.heap.size:=HZ6.out.lt;have hlt6:w.heap.size+1<h6:=by rw [hh6];exact hgl6
 have HK7:=qBk HK6 hb;have HZ7:=qBk HZ6 hb;have hB7:=qTr hB6 hb;have hs7:=hb.size;clear ho hb HK6 HZ6 hB6 hgl6;have kx:w7.cell? ⟨w.heap.size,6,none⟩=some (.slice a6 x.runs.length c6):=HK7.out.cell rfl;have fx:w7.frozen? ⟨w.heap.size,6,none⟩=false:=HK7.out.frozen _;have HK8:Hid (Blk w.heap.size (mmA x b5 q5 b6 q6 a7 c7 a8 c8) 32 (w7.setCell ⟨w.heap.size,6,none⟩ (.slice b6 x.runs.length q6))):=HK7.out.set 6 _;have HZ8:Hid (Blk (w.heap.size+1) MmA 32 (w7.setCell ⟨w.heap.size,6,none⟩ (.slice b6 x.runs.length q6))):=HZ7.out.other (a:=⟨w.heap.size,6,none⟩) (show w.heap.size+1≠w.heap.size by omega) _;have hB8:Below w.heap.size w (w7.setCell ⟨w.heap.size,6,none⟩ (.slice b6 x.runs.length q6)):=hB7.setCell (p:=⟨w.heap.size,6,none⟩) nL _;replace P5:Hid (SliceC WntC 7 h5 (w7.setCell ⟨w.heap.size,6,none⟩ (.slice b6 x.runs.length q6)) b5 x.wants):=P5.out.keep WntC.holds (Keeps.set (a:=⟨w.heap.size,6,none⟩) (show w.heap.size<h5 by omega) _) nL;replace P6:Hid (SliceC RnC 11 h6 (w7.setCell ⟨w.heap.size,6,none⟩ (.slice b6 x.runs.length q6)) b6 x.runs):=P6.out.keep RnC.holds (Keeps.set (a:=⟨w.heap.size,6,none⟩) (show w.heap.size<h6 by omega) _) nL;have hsz8:w7.heap.size≤(w7.setCell ⟨w.heap.size,6,none⟩ (.slice b6 x.runs.length q6)).heap.size:=by simp [World.setCell]
 clear HK7 HZ7 hB7;go_upto_region 4 with fail;clear kx fx;generalize (w7.setCell ⟨w.heap.size,6,none⟩ (.slice b6 x.runs.length q6))=w8 at *;have k7:w8.cell? ⟨w.heap.size,7,none⟩=some (.slice a7 x.asks.length c7):=HK8.out.cell rfl;go_wp2_with fail;clear k7;refine (Nd x.asks a7 c7 lo _ (HI.out.s7.below AksC.holds hB8 nL) HM.out.l7 HM.out.z7 HA7).mono ?_;rintro e w9 ⟨b7,q7,rfl,ho,hb⟩;have hU7:=Cw ho;obtain ⟨h7,hh7⟩:∃ h,h=w8.heap.size:=⟨_,rfl⟩;have P7:Hid (SliceC AksC 4 h7 w9 b7 x.asks):=by rw [hh7];exact Cn ho HM.out.l7 HM.out.z7
 replace P5:=qSl WntC.holds P5 hb;replace P6:=qSl RnC.holds P6 hb;have hgl7:w.heap.size+1<w8.heap.size:=HZ8.out.lt;have hlt7:w.heap.size+1<h7:=by rw [hh7];exact hgl7
 have HK9:=qBk HK8 hb;have HZ9:=qBk HZ8 hb;have hB9:=qTr hB8 hb;have hs9:=hb.size;clear ho hb HK8 HZ8 hB8 hgl7;have kx:w9.cell? ⟨w.heap.size,7,none⟩=some (.slice a7 x.asks.length c7):=HK9.out.cell rfl;have fx:w9.frozen? ⟨w.heap.size,7,none⟩=false:=HK9.out.frozen _;have HK10:Hid (Blk w.heap.size (mmA x b5 q5 b6 q6 b7 q7 a8 c8) 32 (w9.setCell ⟨w.heap.size,7,none⟩ (.slice b7 x.asks.length q7))):=HK9.out.set 7 _;have HZ10:Hid (Blk (w.heap.size+1) MmA 32 (w9.setCell ⟨w.heap.size,7,none⟩ (.slice b7 x.asks.length q7))):=HZ9.out.other (a:=⟨w.heap.size,7,none⟩) (show w.heap.size+1≠w.heap.size by omega) _;have hB10:Below w.heap.size w (w9.setCell ⟨w.heap.size,7,none⟩ (.slice b7 x.asks.length q7)):=hB9.setCell (p:=⟨w.heap.size,7,none⟩) nL _;replace P5:Hid (SliceC WntC 7 h5 (w9.setCell ⟨w.heap.size,7,none⟩ (.slice b7 x.asks.length q7)) b5 x.wants):=P5.out.keep WntC.holds (Keeps.set (a:=⟨w.heap.size,7,none⟩) (show w.heap.size<h5 by omega) _) nL;replace P6:Hid (SliceC RnC 11 h6 (w9.setCell ⟨w.heap.size,7,none⟩ (.slice b7 x.asks.length q7)) b6 x.runs):=P6.out.keep RnC.holds (Keeps.set (a:=⟨w.heap.size,7,none⟩) (show w.heap.size<h6 by omega) _) nL;replace P7:Hid (SliceC AksC 4 h7 (w9.setCell ⟨w.heap.size,7,none⟩ (.slice b7 x.asks.length q7)) b7 x.asks):=P7.out.keep AksC.holds (Keeps.set (a:=⟨w.heap.size,7,none⟩) (show w.heap.size<h7 by omega) _) nL;have hsz10:w9.heap.size≤(w9.setCell ⟨w.heap.size,7,none⟩ (.slice b7 x.asks.length q7)).heap.size:=by simp [World.setCell]
 clear HK9 HZ9 hB9;go_upto_region 5 with fail;clear kx fx;generalize (w9.setCell ⟨w.heap.size,7,none⟩ (.slice b7 x.asks.length q7))=w10 at *;have k8:w10.cell? ⟨w.heap.size,8,none⟩=some (.slice a8 x.gives.length c8):=HK10.out.cell rfl;go_wp2_with fail;clear k8;refine (Nd x.gives a8 c8 lo _ (HI.out.s8.below AksC.holds hB10 nL) HM.out.l8 HM.out.z8 HA8).mono ?_;rintro e w11 ⟨b8,q8,rfl,ho,hb⟩;have hU8:=Cw ho;obtain ⟨h8,hh8⟩:∃ h,h=w10.heap.size:=⟨_,rfl⟩;have P8:Hid (SliceC AksC 4 h8 w11 b8 x.gives):=by rw [hh8];exact Cn ho HM.out.l8 HM.out.z8
 replace P5:=qSl WntC.holds P5 hb;replace P6:=qSl RnC.holds P6 hb;replace P7:=qSl AksC.holds P7 hb;have hgl8:w.heap.size+1<w10.heap.size:=HZ10.out.lt;have hlt8:w.heap.size+1<h8:=by rw [hh8];exact hgl8
 have HK11:=qBk HK10 hb;have HZ11:=qBk HZ10 hb;have hB11:=qTr hB10 hb;have hs11:=hb.size;clear ho hb HK10 HZ10 hB10 hgl8;have kx:w11.cell? ⟨w.heap.size,8,none⟩=some (.slice a8 x.gives.length c8):=HK11.out.cell rfl;have fx:w11.frozen? ⟨w.heap.size,8,none⟩=false:=HK11.out.frozen _;have HK12:Hid (Blk w.heap.size (mmA x b5 q5 b6 q6 b7 q7 b8 q8) 32 (w11.setCell ⟨w.heap.size,8,none⟩ (.slice b8 x.gives.length q8))):=HK11.out.set 8 _;have HZ12:Hid (Blk (w.heap.size+1) MmA 32 (w11.setCell ⟨w.heap.size,8,none⟩ (.slice b8 x.gives.length q8))):=HZ11.out.other (a:=⟨w.heap.size,8,none⟩) (show w.heap.size+1≠w.heap.size by omega) _;have hB12:Below w.heap.size w (w11.setCell ⟨w.heap.size,8,none⟩ (.slice b8 x.gives.length q8)):=hB11.setCell (p:=⟨w.heap.size,8,none⟩) nL _;replace P5:Hid (SliceC WntC 7 h5 (w11.setCell ⟨w.heap.size,8,none⟩ (.slice b8 x.gives.length q8)) b5 x.wants):=P5.out.keep WntC.holds (Keeps.set (a:=⟨w.heap.size,8,none⟩) (show w.heap.size<h5 by omega) _) nL;replace P6:Hid (SliceC RnC 11 h6 (w11.setCell ⟨w.heap.size,8,none⟩ (.slice b8 x.gives.length q8)) b6 x.runs):=P6.out.keep RnC.holds (Keeps.set (a:=⟨w.heap.size,8,none⟩) (show w.heap.size<h6 by omega) _) nL;replace P7:Hid (SliceC AksC 4 h7 (w11.setCell ⟨w.heap.size,8,none⟩ (.slice b8 x.gives.length q8)) b7 x.asks):=P7.out.keep AksC.holds (Keeps.set (a:=⟨w.heap.size,8,none⟩) (show w.heap.size<h7 by omega) _) nL;replace P8:Hid (SliceC AksC 4 h8 (w11.setCell ⟨w.heap.size,8,none⟩ (.slice b8 x.gives.length q8)) b8 x.gives):=P8.out.keep AksC.holds (Keeps.set (a:=⟨w.heap.size,8,none⟩) (show w.heap.size<h8 by omega) _) nL;have hsz12:w11.heap.size≤(w11.setCell ⟨w.heap.size,8,none⟩ (.slice b8 x.gives.length q8)).heap.size:=by simp [World.setCell]
 clear HK11 HZ11 hB11;go_upto_region 6 with fail;clear kx fx;generalize (w11.setCell ⟨w.heap.size,8,none⟩ (.slice b8 x.gives.length q8))=w12 at *;obtain ⟨wf,HE⟩:∃ wf,Hid (wf=w12.setCells (w.heap.size+1) 0 (mmL x b5 q5 b6 q6 b7 q7 b8 q8)):=⟨_,rfl⟩;have HTS:=iH HZ12.out.there;have HRf:Hid (wf.rangeAt (w.heap.size+1) 0 (mmL x b5 q5 b6 q6 b7 q7 b8 q8)):=by
  show World.rangeAt _ _ _ _
  rw [HE.out];exact World.rangeAt_setCells_same _ _ _ _ HTS
 have hBf:Below w.heap.size w wf:=by
  rw [HE.out];exact Aa (by omega) _ _ _ hB12
 have hsf:w12.heap.size≤wf.heap.size:=by
  rw [HE.out];exact (Aa (B:=0) (zL) _ _ _ (Below.refl _ _)).size
 replace P5:Hid (SliceC WntC 7 h5 wf b5 x.wants):=by
  show SliceC _ _ _ _ _ _
  rw [HE.out];exact P5.out.keep WntC.holds (Keeps.setCells (show w.heap.size+1<h5 by omega) _ _ _) nL
 replace P6:Hid (SliceC RnC 11 h6 wf b6 x.runs):=by
  show SliceC _ _ _ _ _ _
  rw [HE.out];exact P6.out.keep RnC.holds (Keeps.setCells (show w.heap.size+1<h6 by omega) _ _ _) nL
 replace P7:Hid (SliceC AksC 4 h7 wf b7 x.asks):=by
  show SliceC _ _ _ _ _ _
  rw [HE.out];exact P7.out.keep AksC.holds (Keeps.setCells (show w.heap.size+1<h7 by omega) _ _ _) nL
 replace P8:Hid (SliceC AksC 4 h8 wf b8 x.gives):=by
  show SliceC _ _ _ _ _ _
  rw [HE.out];exact P8.out.keep AksC.holds (Keeps.setCells (show w.heap.size+1<h8 by omega) _ _ _) nL
 clear hB12;go_wp2_with (first | (refine qLk Cu HK12 ?_) | (refine Ab rfl 32 _ _ rfl (w.heap.size+1) 0 (mmA x b5 q5 b6 q6 b7 q7 b8 q8) rfl rfl HTS Am (by simp [Value.oneCell']) wf HE ?_));exact bodyPost_ret (Ai rfl _ _ (w.heap.size+1) (mmL x b5 q5 b6 q6 b7 q7 b8 q8) _ rfl HRf Tryz.underlying32 rfl Am) rfl ⟨b5,q5,b6,q6,b7,q7,b8,q8,rfl,⟨h6,h7,h8,by omega,by omega,by omega,by omega,Nat.le_refl _,hU5.mono (by omega),hU6.mono (by omega),hU7.mono (by omega),hU8.mono (by omega),P5.out.keep WntC.holds (Keeps.refl _ _) (by omega),P6,P7,P8⟩,hBf⟩
end Go.Proofs.YtkiloaiffopllaaGreat
