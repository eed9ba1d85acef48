import Derived.Test.YtpidfnfilnkhkaaGreatHr1
import Derived.Test.YtpidfnfilnkhkaaGreatJ45
import Derived.Test.YtpidfnfilnkhkaaGreatL3s
namespace Go.Proofs.YtpidfnfilnkhkaaGreat
open Go.RowKit
def Dc (x:Flt) (l:List Nat):List BA:=l.map (Mi x.copies)
theorem Dh (x:Flt) (l:List Nat):(Dc x l).length=l.length:=List.length_map _
def InV (x:Flt) (l:List Nat):Prop:=l.Pairwise (·<·)∧∀ t∈l,∃ c,x.copies[t]?=some c∧¬ c.at_=⟨#[]⟩
theorem InV.of {x:Flt} (hv:Au x=true) {y:Cpy} {b:Brt} {bi:Nat} (hb:x.berths[bi]?=some b) {l:List Nat} (h:l.Sublist (Bf x y b)):InV x l:=by
 refine ⟨(Jk x y b).sublist h,fun t ht=>?_⟩;obtain ⟨c,hc,h1,_⟩:=Gn (h.subset ht);exact ⟨c,hc,fun e=>Jl ((Be hv).2.2.1 bi b hb).1 (h1.symm.trans e)⟩
theorem aP {x:Flt} (hv:Au x=true) {t:Nat} {c:Cpy} (hc:x.copies[t]?=some c):Eo x.copies (Mi x.copies t)=(t:Int):=by
 obtain ⟨_,_,_,hcN,_,_⟩:=Ay hv;rw [Hg hc];exact (Im hcN (AscN.last hcN (Cs (f:=(·.name)) hc) (Ac hc))).1
theorem bM {x:Flt} {l:List Nat} {j:Nat} {g:BA} (h:(Dc x l)[j]?=some g):∃ t,l[j]?=some t∧g=Mi x.copies t:=by
 unfold Dc at h;rw [List.getElem?_map] at h;obtain ⟨t,h1,h2⟩:=Option.map_eq_some_iff.1 h;exact ⟨t,h1,h2.symm⟩
theorem uF {x:Flt} (hv:Au x=true) {l:List Nat} (h:InV x l):Ju x (Dc x l)=l:=by
 unfold Ju Dc;rw [List.map_map];have:∀ t∈l,((fun g=>(Eo x.copies g).toNat)∘Mi x.copies) t=t:=by
  intro t ht;obtain ⟨c,hc,_⟩:=h.2 t ht;show (Eo x.copies (Mi x.copies t)).toNat=t
  rw [aP hv hc];rfl
 exact (List.map_congr_left this).trans (List.map_id' l)
theorem nU {x:Flt} (hv:Au x=true) {l:List Nat} (h:InV x l):sM x (Dc x l) (Dc x l).length:=by
 intro j g _ hg;obtain ⟨t,h1,rfl⟩:=bM hg;obtain ⟨c,hc,_⟩:=h.2 t (List.mem_of_getElem? h1);rw [aP hv hc];omega
theorem nR {x:Flt} (hv:Au x=true) {l:List Nat} (h:InV x l):∀ (k:Nat) g,(Dc x l)[k]?=some g→∃ t:Nat,Eo x.copies g=(t:Int)∧t<x.copies.length:=by
 intro k g hg;obtain ⟨t,h1,rfl⟩:=bM hg;obtain ⟨c,hc,_⟩:=h.2 t (List.mem_of_getElem? h1);exact ⟨t,aP hv hc,Ac hc⟩
theorem yV {x:Flt} (hv:Au x=true) {l:List Nat} (h:InV x l):PlOk (cpN x) (Dc x l) (Dc x l).length l:=by
 obtain ⟨_,_,_,hcN,_,_⟩:=Ay hv;refine ⟨(Dh x l).symm,fun j g _ hg=>?_⟩;obtain ⟨t,h1,rfl⟩:=bM hg;obtain ⟨c,hc,_⟩:=h.2 t (List.mem_of_getElem? h1);refine ⟨t,h1,?_⟩;rw [Hg hc];refine AscN.last hcN (Cs (f:=(·.name)) hc) ?_;have:=Ac hc;simpa using this
theorem xL {x:Flt} (hv:Au x=true) {l:List Nat} (h:InV x l):May x (Dc x l)↔Fo x l:=by
 have hi:=pH hv (yV hv h);have ha:aX x l l.length:=by
  refine ⟨fun j p _ hj=>h.2 p (List.mem_of_getElem? hj),fun j q p _ hq hp=>?_⟩;have h1:=Ac hp;have h2:=Ac hq;have h3:=List.pairwise_iff_getElem.1 h.1 j (j+1) h2 h1 (Nat.lt_succ_self j);rw [gE h1] at hp;rw [gE h2] at hq;cases hp
  cases hq
  exact h3
 exact ⟨fun hm=>(hi.2 hm).2,fun hl=>hi.1 ⟨ha,hl⟩⟩
theorem uR {x:Flt} (hv:Au x=true) {l:List Nat} (h:InV x l):fG ((Dc x l).map (Xk x))=Cc (rkV x) l:=by
 have h1:(Dc x l).map (Xk x)=l.map (rkV x):=by
  unfold Dc;rw [List.map_map];refine List.map_congr_left fun t ht=>?_
  obtain ⟨c,hc,_⟩:=h.2 t ht;show Xk x (Mi x.copies t)=rkV x t
  unfold Xk rkV;rw [aP hv hc];rfl
 rw [h1];obtain ⟨h2,h3⟩:=lR (l.map (rkV x)) [] List.Pairwise.nil;rw [List.append_nil] at h3;unfold Cc;exact Ww h2 (Oi _) (h3.trans (Kp _).symm)
theorem eN {α β:Type} [DecidableEq α] [DecidableEq β] {lt:α→α→Bool} {lt':β→β→Bool} {f:α→β}:∀ {a b:List α},(∀ u∈a,∀ v∈b,lt' (f u) (f v)=lt u v∧(f u=f v→u=v))→Cl lt' (a.map f) (b.map f)=Cl lt a b
 | [],[],_=>rfl
 | [],_::_,_=>rfl
 | _::_,[],_=>rfl
 | u::a,v::b,h=>by
  obtain ⟨h1,h2⟩:=h u List.mem_cons_self v List.mem_cons_self;have ih:=eN (a:=a) (b:=b) (lt:=lt) (lt':=lt') (f:=f) fun s hs t ht=>h s (List.mem_cons_of_mem _ hs) t (List.mem_cons_of_mem _ ht)
  simp only [List.map_cons,Cl];by_cases e:u=v
  ·subst e
   rw [if_pos rfl,if_pos rfl,ih]
  ·rw [if_neg (fun q=>e (h2 q)),if_neg e,h1]
theorem wP {x:Flt} (hv:Au x=true) {a b:List Nat} (ha:InV x a) (hb:InV x b):nmL (Dc x a) (Dc x b)=Cl ltP a b:=by
 obtain ⟨_,_,_,hcN,_,_⟩:=Ay hv;refine eN fun u hu v hv'=>?_
 obtain ⟨c,hc,_⟩:=ha.2 u hu;obtain ⟨d,hd,_⟩:=hb.2 v hv';rw [Hg hc,Hg hd];have hc':(cpN x)[u]?=some c.name:=Cs (f:=(·.name)) hc;have hd':(cpN x)[v]?=some d.name:=Cs (f:=(·.name)) hd;have hi:=AscN.less_iff hcN hc' hd';refine ⟨?_,fun e=>AscN.inj hcN hc' (by rw [e];exact hd')⟩;unfold ltP;rw [Bool.eq_iff_iff,decide_eq_true_eq];exact hi.symm
theorem uS {r:Nat→Int} {g b:List Nat} (h:(Cl ltI (Cc r b) (Cc r g) || (!Cl ltI (Cc r g) (Cc r b) && !Cl ltP g b))=true):hLt r g b=false:=by
 have T:=Db Hh;unfold hLt;simp only [Bool.or_eq_true,Bool.and_eq_true,Bool.not_eq_true'] at h;rcases h with h | ⟨h1,h2⟩
 ·rw [T.asym h,Bool.false_or]
  have:¬ Cc r g=Cc r b:=fun e=>by rw [e,T.irr] at h;cases h
  rw [decide_eq_false this,Bool.false_and]
 ·rw [h1,h2,Bool.and_false,Bool.or_false]
theorem xN {r:Nat→Int} {g b:List Nat} (h:(Cl ltI (Cc r b) (Cc r g) || (!Cl ltI (Cc r g) (Cc r b) && !Cl ltP g b))=false):hLt r b g=false:=by
 have T:=Db Hh;have TP:=Db Jj;unfold hLt;simp only [Bool.or_eq_false_iff,Bool.and_eq_false_iff,Bool.not_eq_false'] at h;obtain ⟨h1,h2⟩:=h;rw [h1,Bool.false_or];by_cases e:Cc r b=Cc r g
 ·rcases h2 with h2 | h2
  ·rw [e,T.irr] at h2;cases h2
  ·rw [TP.asym h2,Bool.and_false]
 ·rw [decide_eq_false e,Bool.false_and]
def Ip (x:Flt) (y:Cpy) (b:Brt) (k:Nat):List Nat:=(List.range k).filter (onV x y b)
theorem pW (x:Flt) (y:Cpy) (b:Brt) (k:Nat):(Ip x y b k).length≤k:=by
 have:=List.length_filter_le (onV x y b) (List.range k)
 rwa [List.length_range] at this
theorem oL {x:Flt} {y:Cpy} {b:Brt} {k:Nat} {c:Cpy} (hc:x.copies[k]?=some c) (h1:c.at_=b.name) (h2:c.rank<y.rank):Dc x (Ip x y b (k+1))=Dc x (Ip x y b k)++[c.name]:=by
 have h:onV x y b k=true:=by unfold onV;rw [hc];simp [h1,h2]
 unfold Ip Dc;rw [List.range_succ,List.filter_append,List.filter_cons,List.filter_nil,h,List.map_append];simp [Hg hc]
theorem fU {x:Flt} {y:Cpy} {b:Brt} {k:Nat} {c:Cpy} (hc:x.copies[k]?=some c) (h1:¬ (c.at_=b.name∧c.rank<y.rank)):Ip x y b (k+1)=Ip x y b k:=by
 have h:onV x y b k=false:=by unfold onV;rw [hc];simpa using h1
 unfold Ip;rw [List.range_succ,List.filter_append,List.filter_cons,List.filter_nil,h];simp
def Eh (may:List Nat) (s k:Nat):List Nat:=((List.range k).filter fun i=>s.testBit i).map fun i=>may.getD i 0
theorem kA (may:List Nat) (s k:Nat):(Eh may s k).length≤k:=by
 unfold Eh;rw [List.length_map];have:=List.length_filter_le (fun i=>s.testBit i) (List.range k)
 rwa [List.length_range] at this
theorem jM {may:List Nat} {s k t:Nat} (ht:may[k]?=some t) (h:s.testBit k=true):Eh may s (k+1)=Eh may s k++[t]:=by
 unfold Eh;rw [List.range_succ,List.filter_append,List.filter_cons,List.filter_nil,h,List.map_append];simp [ht]
theorem pT {may:List Nat} {s k:Nat} (h:s.testBit k=false):Eh may s (k+1)=Eh may s k:=by
 unfold Eh;rw [List.range_succ,List.filter_append,List.filter_cons,List.filter_nil,h];simp
theorem BV (s k:Nat):Int.tmod (((s:Nat):Int) / 2 ^ k) 2=1↔s.testBit k=true:=by
 rw [Nat.testBit_eq_decide_div_mod_eq,decide_eq_true_eq];have e:((s:Nat):Int) / 2 ^ k=((s / 2 ^ k:Nat):Int):=by push_cast;rfl
 rw [e];rw [show (2:Int)=((2:Nat):Int) from rfl,← Int.ofNat_tmod];omega
theorem zG {x:Flt} {l:List Nat} {ci:Nat} {y:Cpy} (hy:x.copies[ci]?=some y) (hat:y.at_=⟨#[]⟩):(woF x l).copies[ci]?=some y:=by
 show (atP l ⟨#[]⟩ x.copies)[ci]?=some y
 rw [De,hy,Option.map_some]
 congr 1
 split
 ·rw [← hat]
 ·rfl
theorem Yl {x:Flt} (hv:Au x=true) {l:List Nat} (hin:InV x l) (a1:OA) (c1:Nat) (a2:OA) (c2:Nat) (a3:OA) (c3:Nat) (lo:Nat) (ga:OA) (gc lo2:Nat) (w:World) (n3:SliceC CpyC 12 lo w a3 x.copies) (hg:SliceC StrC 1 lo2 w ga (Dc x l)) (hsm:l.length≤10) :
  Calls Tryz.prog 44 #[.agg (ffA x a1 c1 a2 c2 a3 c3),.slice ga l.length gc] w fun e w'=>∃ d q,e=.returned (.slice d (Cc (rkV x) l).length q)∧SliceC IntC 1 w.heap.size w' d (Cc (rkV x) l)∧Below w.heap.size w w':=by
 have h:=iZ x a1 c1 a2 c2 a3 c3 lo (Dc x l) ga gc lo2 w n3 hg (by rw [Dh];omega) (Ay hv).2.1 (nU hv hin);rw [Dh,uR hv hin] at h;have hl:(Cc (rkV x) l).length=l.length:=by
  unfold Cc;rw [(Kp _).length_eq,List.length_map]
 refine h.mono ?_;rintro e w' ⟨g,q,rfl,ho,hb⟩;obtain ⟨a,c,e1,hs⟩:=Zw (is:=Cc (rkV x) l) (by rw [hl];exact ho) (by rw [hl];unfold maxLen;omega);refine ⟨a,c,by rw [e1],hs.keep IntC.holds (Keeps.refl _ _) (by omega),hb⟩
theorem Yt {x:Flt} (hv:Au x=true) {l:List Nat} (hin:InV x l) (a1:OA) (c1:Nat) (a2:OA) (c2:Nat) (a3:OA) (c3:Nat) (lo:Nat) (ga:OA) (gc lo2:Nat) (w:World) (n2:SliceC SvcC 2 lo w a2 x.services) (n3:SliceC CpyC 12 lo w a3 x.copies) (hg:SliceC StrC 1 lo2 w ga (Dc x l)) (hsm:l.length≤10) :
  Calls Tryz.prog 47 #[.agg (ffA x a1 c1 a2 c2 a3 c3),.slice ga l.length gc] w fun e w'=>∃ t,e=.returned (.bool t)∧(t=true↔Fo x l)∧Below w.heap.size w w':=by
 obtain ⟨k2,k3,_,_,hsp,_⟩:=Ay hv;have h:=gK x a1 c1 a2 c2 a3 c3 lo (Dc x l) ga gc lo2 w n2 n3 hg (by rw [Dh];omega) k2 k3 hsp;rw [Dh] at h;refine h.mono ?_;rintro e w' ⟨⟨t,rfl,ht⟩,hb⟩;exact ⟨t,rfl,ht.trans (xL hv hin),hb⟩
theorem qQ {x:Flt} (hv:Au x=true) {l m:List Nat} (hl:InV x l) (hm:InV x m) (a a':OA) (cap cap' lo lo':Nat) (w:World) (hg:SliceC StrC 1 lo w a (Dc x l)) (hh:SliceC StrC 1 lo' w a' (Dc x m)) :
  Calls Tryz.prog 46 #[.slice a l.length cap,.slice a' m.length cap'] w (Rt (.bool (Cl ltP l m)) w):=by
 have h:=qO (Dc x l) (Dc x m) a a' cap cap' lo lo' w hg hh;rw [Dh,Dh,wP hv hl hm] at h;exact h
theorem Zc (xs ys:List Int) (a a':OA) (cap cap' lo lo':Nat) (w:World) (hg:SliceC IntC 1 lo w a xs) (hh:SliceC IntC 1 lo' w a' ys) :
  Calls Tryz.prog 45 #[.slice a xs.length cap,.slice a' ys.length cap'] w (Rt (.bool (Cl ltI xs ys)) w):=by
 have h:=bG xs ys a a' cap cap' lo lo' w hg hh;rw [Ra] at h;exact h
theorem mY {x:Flt} (hv:Au x=true) {l:List Nat} (hin:InV x l) (a1:OA) (c1 b2 o2 c2:Nat) (a3:OA) (c3:Nat) (ga:OA) (gc lo lo2:Nat) (w:World) (n1:SliceC BrtC 6 lo w a1 x.berths) (n2:SliceC SvcC 2 lo w (some ⟨b2,o2,none⟩) x.services) (n3:SliceC CpyC 12 lo w a3 x.copies) (hg:SliceC StrC 1 lo2 w ga (Dc x l)) (hsm:l.length≤10) (hmk:∀ y∈x.berths,y.marks.length≤1048576) (hlk:∀ y∈x.copies,y.likes.length≤1048576) (hne:x.copies≠[]) :
  Calls Tryz.prog 49 #[.agg (ffA x a1 c1 (some ⟨b2,o2,none⟩) c2 a3 c3),.slice ga l.length gc] w fun e w'=>∃ (e1:OA) (q1:Nat) (e2:OA) (q2:Nat) (e3:OA) (q3:Nat),e=.returned (.agg (ffA x e1 q1 e2 q2 e3 q3))∧SliceC BrtC 6 0 w' e1 x.berths∧SliceC CpyC 12 0 w' e3 (woF x l).copies∧Below w.heap.size w w':=by
 obtain ⟨k2,k3,_,_,_,_⟩:=Ay hv;have k1:=(Be hv).1;have hz:=Se n3;have h:=dC x a1 c1 b2 o2 c2 a3 c3 (Dc x l) ga gc 0 w (n1.keep BrtC.holds (Keeps.refl _ _) (zL)) (n2.keep SvcC.holds (Keeps.refl _ _) (zL)) (n3.keep CpyC.holds (Keeps.refl _ _) (zL)) (hg.keep StrC.holds (Keeps.refl _ _) (zL)) (by rw [Dh];omega) (by omega) (by omega) (by omega) hmk hlk hne (nR hv hin);rw [Dh,uF hv hin] at h;refine h.mono ?_;rintro e w' ⟨e1,q1,g2,q2,G,q3,bs,rfl,hbs,⟨H,wB,hH,hbr,hwb,hkp⟩,hsv,hg2,hbG,hoc,hb⟩;refine ⟨e1,q1,_,q2,_,q3,rfl,hbr.keep BrtC.holds hkp (zL),?_,hb⟩;rw [show Value.slice (some ⟨G,0,none⟩) x.copies.length q3=.slice (some ⟨G,0,none⟩) (atP l ⟨#[]⟩ x.copies).length q3 by rw [Cf]] at hoc;exact (OwnN.copies hoc (bK hz) (by rw [Cf];unfold maxLen;omega)).keep CpyC.holds (Keeps.refl _ _) (zL)
theorem eM {x:Flt} (hv:Au x=true) (l:List Nat) (ci bi:Nat) (a1:OA) (c1:Nat) (a2:OA) (c2:Nat) (a3:OA) (c3:Nat) (y:Cpy) (a7:OA) (c7:Nat) (b:Brt) (am:OA) (cm lo:Nat) (w:World) (n1:SliceC BrtC 6 0 w a1 x.berths) (n3:SliceC CpyC 12 0 w a3 (woF x l).copies) (nm:SliceC StrC 1 lo w am b.marks) (hci:x.copies[ci]?=some y) (hbi:x.berths[bi]?=some b) (hat:y.at_=⟨#[]⟩) (hsel:y.select.size≤maxLen) :
  Calls Tryz.prog 48 #[.agg (ffA x a1 c1 a2 c2 a3 c3),.agg (ccA y a7 c7),.agg (bbA b am cm),.bool false] w (Rt (.int .i64 (Ec (woF x l) ci y b false)) w):=by
 have h:=kM 0 ci bi (woF x l) a1 c1 a2 c2 a3 c3 y a7 c7 b am cm false w n1 n3 (nm.keep StrC.holds (Keeps.refl _ _) (zL)) (zG hci hat) hbi (eB hv l) hsel
 (try unfold ffA at h);rw [show (woF x l).copies.length=x.copies.length from Cf _ _ _] at h
 exact h
end Go.Proofs.YtpidfnfilnkhkaaGreat
