import Derived.Test.YtkiloaiffopllaaGreatJ13
set_option maxHeartbeats 4000000
set_option maxRecDepth 100000
namespace Go.Proofs.YtkiloaiffopllaaGreat
open Go.RowKit
def Dv (x:Rn):List Value:=(rrL x)
def Aq:List Rn→List Value
 | []=>[]
 | x::r=>Dv x++Aq r
theorem El (x:Rn):(Dv x).length=11:=rfl
theorem Cb:∀ xs:List Rn,(Aq xs).length=xs.length*11
 | []=>rfl
 | x::r=>by
  have:=Cb r;simp only [Aq,List.length_append,List.length_cons,El];omega
theorem Ih:∀ (xs:List Rn) (k:Nat) (x:Rn) (j:Nat),xs[k]?=some x→j<11→(Aq xs)[k*11+j]?=(Dv x)[j]?
 | [],_,_,_,h,_=>by simp at h
 | y::r,0,x,j,h,hj=>by
  simp at h;subst h;simp only [Aq];rw [List.getElem?_append_left (by rw [El];omega)];simp
 | y::r,k+1,x,j,h,hj=>by
  simp at h;simp only [Aq];rw [List.getElem?_append_right (by rw [El];omega),El,show (k+1)*11+j - 11=k*11+j by omega];exact Ih r k x j h hj
theorem Pd:∀ (xs:List Rn) (k:Nat) (x:Rn),xs[k]?=some x→Ce (Aq xs) (k*11) (Dv x)=Aq xs
 | [],_,_,h=>by simp at h
 | z::r,0,x,h=>by
  simp at h;subst h;rfl
 | z::r,k+1,x,h=>by
  simp at h;simp only [Aq];rw [Fg _ _ _ _ (by rw [El];omega),El,show (k+1)*11 - 11=k*11 by omega,Pd r k x h]
theorem Ca:∀ (xs:List Rn),∀ u∈Aq xs,u.oneCell'=true
 | [],u,h=>by cases h
 | x::r,u,h=>by
  simp only [Aq,List.mem_append] at h;rcases h with h | h
  ·have:∀ v∈Dv x,v.oneCell'=true:=by
    intro v hv;simp only [Dv,List.mem_cons,List.not_mem_nil,or_false] at hv;rcases hv with rfl | rfl | rfl | rfl | rfl | rfl | rfl | rfl | rfl | rfl | rfl <;> rfl
   exact this u h
  ·exact Ca r u h
theorem Ue {lo:Nat} {w:World} {f:Nat→Option Value} {x:Rn} (h:RnC lo w f x) (j:Nat) (v:Value) (hv:(Dv x)[j]?=some v):f j=some v:=by
 obtain ⟨q0,q1,q2,q3,q4,q5,q6,q7,q8,q9,q10,_,_⟩:=h;have hj:j<11:=Ah hv;have hc:j=0∨j=1∨j=2∨j=3∨j=4∨j=5∨j=6∨j=7∨j=8∨j=9∨j=10:=by omega
 rcases hc with rfl | rfl | rfl | rfl | rfl | rfl | rfl | rfl | rfl | rfl | rfl <;> (cases hv;assumption)
theorem Ua {lo:Nat} {w:World} {f:Nat→Option Value} {x:Rn} (h:∀ j v,(Dv x)[j]?=some v→f j=some v) (z0:x.want.copy.size≤maxLen) (z2:x.want.hold.size≤maxLen):RnC lo w f x :=
 ⟨h 0 _ rfl,h 1 _ rfl,h 2 _ rfl,h 3 _ rfl,h 4 _ rfl,h 5 _ rfl,h 6 _ rfl,h 7 _ rfl,h 8 _ rfl,h 9 _ rfl,h 10 _ rfl,z0,z2⟩
theorem Tw {lo:Nat} {w:World} {b o:Nat} {xs:List Rn} (h:SliceC RnC 11 lo w (some ⟨b,o,none⟩) xs) (j:Nat) (u:Value) (hu:(Aq xs)[j]?=some u):w.cell? ((⟨b,o,none⟩:Addr).add j)=some u:=by
 have hl:j<xs.length*11:=by have:=Ah hu;rwa [Cb] at this
 obtain ⟨x,hx⟩:∃ x,xs[j / 11]?=some x:=⟨xs[j / 11]'(by omega),gE (by omega)⟩;obtain ⟨b',o',e,_,_,hc⟩:=h.at hx;cases e
 rw [show j=j / 11*11+j % 11 by omega,Ih xs (j / 11) x (j % 11) hx (by omega)] at hu;have:=Ue hc (j % 11) u hu;rw [Addr.add_mid,show o+j=o+j / 11*11+j % 11 by omega];exact this
def Iv (xs:List Rn) (m:Nat):Prop:=∀ x∈xs,x.want.copy.size≤m∧x.want.hold.size≤m
theorem Dl {base cap:Nat} {a:OA} {w:World} {xs:List Rn} (h:w.ownsRow base 88 11 (.slice a xs.length cap) xs.length (Aq xs)) (hm:xs.length≤1048576) (hz:Iv xs 1048576):SliceC RnC 11 base w a xs:=by
 rcases h.2 with ⟨h1,_⟩ | ⟨g',cap',cur,h1,_⟩
 ·have:xs.length=0:=by injection h1
  rw [List.length_eq_zero_iff.1 this];exact SliceC.nil
 ·have e:a=some ⟨g',0,none⟩:=by injection h1
  subst e;refine ⟨by unfold maxLen;omega,.inr ⟨g',0,rfl,⟨Ob h,fun _ p=>h.frozenAt p⟩,(h.lt g' rfl).2,fun k x hk=>?_⟩⟩;have hlt:=Ah hk;have hzz:=hz x (List.mem_of_getElem? hk);refine Ua (fun j v hv=>?_) (by unfold maxLen;omega) (by unfold maxLen;omega);have hj:j<11:=Ah hv;show w.cell? ⟨g',0+k*11+j,none⟩=some v
  have:=h.cellAt (k*11+j) (by omega);rw [Nat.zero_add];rw [this,Ih xs k x j hk hj];exact hv
theorem Su (xs:List Rn) (b ob cap lo:Nat) (w:World) (hin:SliceC RnC 11 lo w (some ⟨b,ob,none⟩) xs) (hsm:xs.length≤1048576) :
  Calls Tryz.prog 106 #[.slice (some ⟨b,ob,none⟩) xs.length cap] w fun e w'=>∃ g c,e=.returned (.slice (some ⟨g,0,none⟩) xs.length c)∧w'.ownsRow w.heap.size 88 11 (.slice (some ⟨g,0,none⟩) xs.length c) xs.length (Aq xs)∧Below w.heap.size w w':=by
 obtain ⟨i0,hi,hz0,hz1,hz2⟩:=info_parts Ei;have q22:∀ (w:World) (a:OA) (n c n' c':Nat),(binOp .eql 29 (.slice a n c) (.slice none n' c')).run Tryz.prog w=.ok (.bool a.isNone) w:=fun w a n c n' c'=>Lib.run_eql_slice_nil w _ _ a n c n' c' Tryz.underlying29
 have HS:Hid (∀ j u,(Aq xs)[j]?=some u→w.cell? ((⟨b,ob,none⟩:Addr).add j)=some u):=Tw hin;clear hin;go_enter Tryz.func106,Tryz.ntmps106;go_wp2_with (at_builtin;refine wpList_append_own _ rfl _ _ 29 rfl w.heap.size 88 i0 _ 11 104 Tryz.underlying29 hi hz0 hz1 hz2 rfl (by decide) _ _ _ rfl (World.ownsRow_made w #[] 0 nL (zL) rfl) ⟨b,ob,none⟩ xs.length _ (Aq xs) rfl (by rw [Cb]) (fun j u hj=>Lib.cell?_alloc_some _ (HS j u hj)) (Ca xs) (by unfold maxLen;omega) (by omega) (by simp) ?_;intro v' w1 hown hgrow hnil);have hv:v'≠.slice none 0 0:=fun e=>by have:=(hnil.1 e).1;cases this
 have hown':w1.ownsRow w.heap.size 88 11 v' xs.length (Aq xs):=by simpa using hown
 obtain ⟨g,c,rfl⟩:=Co hown' hv;have HO:=iH hown';have hB:Below w.heap.size w w1:=((Below.refl _ w).alloc nL _).grown hgrow (by simp) (by intro k hk;cases hk;exact Nat.le_refl _);clear hown hgrow hnil hv hown';go_wp2_with fail;go_ret;exact ⟨g,c,rfl,HO,hB⟩
theorem Xe (cap:Nat) (w:World) :
  Calls Tryz.prog 106 #[.slice none 0 cap] w (Rt (.slice none 0 0) w):=by
 have q22:∀ (w:World) (a:OA) (n c n' c':Nat),(binOp .eql 29 (.slice a n c) (.slice none n' c')).run Tryz.prog w=.ok (.bool a.isNone) w:=fun w a n c n' c'=>Lib.run_eql_slice_nil w _ _ a n c n' c' Tryz.underlying29
 go_enter Tryz.func106,Tryz.ntmps106;go_wp2_with fail;go_ret;exact ⟨rfl,Below.refl _ _⟩
theorem Pb (f:Value) (cap:Nat) (w:World) :
  Calls Tryz.prog 70 #[.slice none 0 cap,f] w (Rt (.slice none 0 0) w):=by
 go_enter Tryz.func70,Tryz.ntmps70;go_wp2_with fail;refine (Xe cap _).mono ?_;rintro e w1 ⟨rfl,hb⟩;have HB:=iH hb;clear hb;go_wp2_with fail;go_loopw [11] (fun i wr=>i=.int .i64 0∧Below w.heap.size w wr) (fun i _=>0)
 case atStart=>exact ⟨rfl,HB⟩
 case round =>
  obtain ⟨rfl,hB⟩:=hrel;go_wp2_with fail;go_ret;exact ⟨rfl,hB⟩
theorem Yi (xs:List Rn) (b ob cap lo:Nat) (w:World) (hin:SliceC RnC 11 lo w (some ⟨b,ob,none⟩) xs) (hsm:xs.length≤1048576) (hz:Iv xs 1048576) :
  Calls Tryz.prog 70 #[.slice (some ⟨b,ob,none⟩) xs.length cap,.func (.func 71) #[] #[]] w fun e w'=>∃ g q,e=.returned (.slice (some ⟨g,0,none⟩) xs.length q)∧w'.ownsRow w.heap.size 88 11 (.slice (some ⟨g,0,none⟩) xs.length q) xs.length (Aq xs)∧Below w.heap.size w w':=by
 have HI:=iH hin;have HZ:=iH hz;clear hin hz;go_enter Tryz.func70,Tryz.ntmps70;go_wp2_with fail;refine (Su xs b ob cap lo _ HI hsm).mono ?_;rintro e w1 ⟨g,q,rfl,hO1,hB1⟩;have HO1:=iH hO1;clear hO1;go_wp2_with fail;go_loopw [11] (fun i wr=>∃ k:Nat,k≤xs.length∧i=.int .i64 k∧Hid (wr.ownsRow w.heap.size 88 11 (.slice (some ⟨g,0,none⟩) xs.length q) xs.length (Aq xs))∧Below w.heap.size w wr) (fun i _=>xs.length - (intOf i).toNat)
 case atStart=>exact ⟨0,zL,rfl,HO1,hB1⟩
 case round =>
  clear HO1 hB1;obtain ⟨k,hk,rfl,HO,hB⟩:=hrel;by_cases hlt:k<xs.length
  ·obtain ⟨x,hx⟩:=gXe hlt
   have HXX:=iH hx;have Z:=iH (HZ x (List.mem_of_getElem? hx));have hgl:g<wr.heap.size:=(HO.out.lt g rfl).2;have hgb:w.heap.size≤g:=Ob HO;have HRA:Hid (wr.rangeAt g (k*11) (rrL x)):=fun j v hv=>by
    have hj:j<11:=Ah hv;have h1:=HO.out.cellAt (k*11+j) (by omega);rw [Ih _ k x j hx hj] at h1;exact h1.trans hv
   clear hx;have hza:=Blk.alloc wr RrA 88;have HTS:Hid ((wr.alloc (Obj.cells RrA 88)).there wr.heap.size 0 11):=hza.there;obtain ⟨w4,HW4⟩:∃ w4,Hid (w4=(wr.alloc (Obj.cells RrA 88)).setCells wr.heap.size 0 (rrL x)):=⟨_,rfl⟩;have HK4:Hid (Blk wr.heap.size (rrA x) 88 w4):=by
    show Blk _ _ _ _
    rw [HW4.out];exact hza.setAll (rrA x) rfl
   have hbx:Below wr.heap.size wr w4:=by
    rw [HW4.out];exact Aa nL _ _ _ ((Below.refl _ wr).alloc nL _)
   have hB4:=qTr hB hbx;have HO4:=iH (Ae HO hbx);clear hza hbx HO hB;go_upto_region 5 with (first | (refine qLr Bi HRA ?_) | (refine Ab rfl 88 _ _ rfl wr.heap.size 0 (rrA x) rfl rfl HTS Ag (by simp [Value.oneCell']) w4 HW4 ?_));clear HRA HTS HW4;go_wp2_with (first | (refine qLk Bi HK4 ?_));refine (Yu x _ Z.out.1 Z.out.2).mono ?_;rintro e w5 ⟨rfl,hb5⟩;have HO5:=iH (Ae HO4 hb5);have hB5:=qTr hB4 hb5;clear hb5 hB4 HO4 HK4;have HT5:Hid (w5.there g (k*11) 11):=Cg HO5 (by rw [Cb];omega);obtain ⟨w6,HW6⟩:∃ w6,Hid (w6=w5.setCells g (k*11) (Dv x)):=⟨_,rfl⟩;have HO6:Hid (w6.ownsRow w.heap.size 88 11 (.slice (some ⟨g,0,none⟩) xs.length q) xs.length (Aq xs)):=by
    have h:=Cp (Dv x) _ (k*11) _ HO5;rw [Pd xs k x HXX.out,← HW6.out] at h;exact h
   have hB6:Below w.heap.size w w6:=by
    rw [HW6.out];exact Aa hgb _ _ _ hB5
   unfold Dv at HW6;clear hB5 HO5;have i0:(0:Int)≤(k:Int):=by omega
   have i1:(k:Int)<(xs.length:Int):=by omega
   go_wp2_with (first | (refine Ab rfl 88 _ _ rfl g (k*11) (rrA x) (by first | rfl | (simp [go_sem];done)) rfl HT5 Ag (by simp [Value.oneCell']) w6 HW6 ?_));go_roundw
   case rel=>exact ⟨k+1,by omega,by go_num,HO6,hB6⟩
   case measure=>simp [intOf];omega
  ·have hke:k=xs.length:=by omega
   subst hke;go_wp2_with fail;go_ret;exact ⟨g,q,rfl,HO,hB⟩
end Go.Proofs.YtkiloaiffopllaaGreat
namespace Go.Proofs.YtkiloaiffopllaaGreat
open Go.RowKit Go.WideMaps Go.Maps Go.Sort
structure TabR (D:DataW Unit) (xs:List Rn):Prop where
 has_:∀ s,has D (kOf s)=xs.any (fun a=>decide (a.want.copy=s))
 at_:∀ x∈xs,D.atKey (kOf x.want.copy) (Jo ⟨⟨⟨#[]⟩,0,⟨#[]⟩,0,0,0,0⟩,0,0,0,0⟩)=Jo x
theorem TabR.mem {D:DataW Unit} {xs:List Rn} (h:TabR D xs) (x:List UInt8):x∈nmL (xs.map (·.want.copy))↔has D (.string x)=true:=by
 have h1:=h.has_ ⟨⟨x⟩⟩;have h2:kOf ⟨⟨x⟩⟩=.string x:=rfl;rw [h2] at h1;rw [h1,List.any_eq_true];unfold nmL;simp only [List.map_map,List.mem_map,Function.comp];constructor
 ·rintro ⟨a,ha,e⟩
  refine ⟨a,ha,decide_eq_true (Hl ?_)⟩;rw [← ByteArray.toList_eq,e]
 ·rintro ⟨a,ha,e⟩
  refine ⟨a,ha,?_⟩;rw [of_decide_eq_true e,ByteArray.toList_eq]
theorem Fh:∀ (xs ys:List Rn),Aq (xs++ys)=Aq xs++Aq ys
 | [],_=>rfl
 | x::r,ys=>by simp only [List.cons_append,Aq,Fh r ys,List.append_assoc]
theorem Mk (w:World):(zeroValue 88).run Tryz.prog w=.ok (.agg RrA) w:=by kernel_rfl
theorem Xw {w:World} {m n:Nat} {D:DataW Unit} {xs:List Rn} {x:Rn} (h:w.ownsMap Tryz.prog 9 Gs m n D) (ht:TabR D xs) (hx:x∈xs) (hs:x.want.copy.size≤maxLen) :
  (Instr.lookup 118 (.map (some m)) (.string x.want.copy) false).run Tryz.prog w=.ok (.agg (rrA x)) w:=by
 obtain ⟨v,ps,hrun,hv⟩:=h.lookup Bo Tryz.underlying118 (Mk _) (Ju ⟨⟨⟨#[]⟩,0,⟨#[]⟩,0,0,0,0⟩,0,0,0,0⟩) (keyOf_string_mk Tryz.underlying9 hs);have hv2:Gs v=some (Jo x,ps):=hv.trans (congrArg (fun d=>some (d,ps)) (ht.at_ x hx));obtain ⟨z,rfl,e⟩:=Np hv2;have:x=z:=Mw (congrArg Prod.fst e);subst this;exact hrun
theorem Je (xs:List Rn) (b n:Nat) (D:DataW Unit) (w:World) (hown:w.ownsMap Tryz.prog 9 Gs b n D) (hn:n≤2097152) (ht:TabR D xs) (ha:Aw (xs.map (·.want.copy)) xs.length=true) (hz:∀ x∈xs,x.want.copy.size≤maxLen) (hl:xs.length≤1048576) :
  Calls Tryz.prog 89 #[.map (some b)] w fun e w'=>∃ a q,e=.returned (.slice a xs.length q)∧w'.ownsRow w.heap.size 88 11 (.slice a xs.length q) xs.length (Aq xs)∧Below w.heap.size w w':=by
 obtain ⟨i0,hi,hz0,hz1,hz2⟩:=info_parts Ei;have hsz:=hown.size_le;have HKp:=Om hown Bo Tryz.underlying9 (ns:=xs.map (·.want.copy)) (by rw [List.length_map];exact ha) (fun x=>ht.mem x);have HO:=iH hown;have HT:=iH ht;have HA:=iH ha;have HZ:=iH hz;have HP:=iH HKp;clear hown ht ha hz HKp;go_enter Tryz.func89,Tryz.ntmps89;go_wp2_with fail;refine (callsIn_wide.1 (Tq (some b) _)).mono ?_;rintro e w1 ⟨rfl,rfl⟩;go_wp2_with fail;refine (callsIn_wide.1 (Pt b n D Gs w HO (by unfold maxLen;omega) (by omega))).mono ?_;rintro e w2 ⟨v,ss,rfl,hS,hrow,hnil,hb2⟩;have hsort:ss.mergeSort (fun x y=>decide (x≤y))=nmL (xs.map (·.want.copy)):=Nb (by rw [List.length_map];exact HA.out) (hS.trans HP.out.symm);have hlen:ss.length=xs.length:=by rw [(hS.trans HP.out.symm).length_eq];simp [nmL]
 rw [hsort,hlen] at hrow;have hb1:=(Below.refl _ w).alloc nL (Obj.cells #[.map (some b)] 118);have hB2:=qTr hb1 hb2;have HO2:=iH (Ak HO hB2 HO.out.lt);have HR2:=iH hrow;clear hb1 hb2 HO HP hS hsort;by_cases h0:xs=[]
 ·subst h0
  have hss:ss=[]:=List.length_eq_zero_iff.1 hlen;have hv:v=.slice none 0 0:=hnil.2 hss;subst hv;clear hnil hss hlen HR2 hrow;go_wp2_with fail;go_loopw [3,10] (fun l i wr=>l=.slice none 0 0∧i=.int .i64 0∧Below w.heap.size w wr) (fun _ i _=>0)
  case atStart=>exact ⟨rfl,rfl,hB2⟩
  case round =>
   obtain ⟨rfl,rfl,hB⟩:=hrel;go_wp2_with fail;go_ret;exact ⟨none,0,rfl,World.ownsRow_nil _ _ _ _,hB⟩
 ·have hpos:0<xs.length:=List.length_pos_iff.2 h0
  have hv:v≠.slice none 0 0:=fun e=>by
   have:=hnil.1 e;rw [this] at hlen;simp at hlen;omega
  obtain ⟨g,cap,rfl⟩:=Co HR2 hv;clear hnil hlen hv hrow h0 ss;go_wp2_with fail;go_loopw [3,10] (fun l i wr=>∃ (k:Nat) (a:OA) (q:Nat),k≤xs.length∧i=.int .i64 k∧l=.slice a k q∧Hid (wr.ownsRow w2.heap.size 88 11 (.slice a k q) k (Aq (xs.take k)))∧Hid (Below w2.heap.size w2 wr)) (fun _ i _=>xs.length - (intOf i).toNat)
  case atStart=>exact ⟨0,none,0,zL,rfl,rfl,World.ownsRow_nil _ _ _ _,Below.refl _ _⟩
  case round =>
   obtain ⟨k,a,q,hk,rfl,rfl,HOW,HB⟩:=hrel;by_cases hlt:k<xs.length
   case neg =>
    have hke:k=xs.length:=by omega
    subst hke;rw [List.take_length] at HOW;have hBf:=hB2.trans (HB.out.mono hB2.size);have HOF:=iH (ownsRow_base_a HOW hB2.size);go_wp2_with fail;go_ret;exact ⟨a,q,rfl,HOF,hBf⟩
   obtain ⟨x,hx⟩:=gXe hlt;have HOr:=iH (Ak HO2 HB HO2.out.lt);have HRr:=iH (Ae HR2 HB);have yl:=Xw HOr HT (List.mem_of_getElem? hx) (HZ x (List.mem_of_getElem? hx));have kc:wr.cell? ⟨g,k,none⟩=some (.string x.want.copy):=by
    have h:=HRr.out.cellAt k (by omega);rw [h];unfold nmL;rw [List.getElem?_map,List.getElem?_map,List.getElem?_map,hx];show some (Value.string ⟨x.want.copy.toList.toArray⟩)=_
    rw [Vv]
   have HST:Hid (xs.take (k+1)=xs.take k++[x]):=by show _=_;rw [List.take_add_one,hx];rfl
   have i0':(0:Int)≤(k:Int):=by omega
   have i1':(k:Int)<(xs.length:Int):=by omega
   clear hx;obtain ⟨NV,hnv⟩:∃ l,l=Dv x:=⟨_,rfl⟩;have HNV:=iH hnv;clear hnv;have HNL:Hid (NV.length=1*11):=by show _=_;rw [HNV.out];rfl
   have HNN:Hid (∀ j u,NV[j]?=some u→(wr.alloc (Obj.cells (rrA x) 88)).cell? ((⟨wr.heap.size,0,none⟩:Addr).add j)=some u):=by
    intro j u hj;rw [Addr.add_mid];rw [HNV.out] at hj;exact (Blk.alloc wr (rrA x) 88).rangeA j u hj
   have HN1:Hid (∀ u∈NV,u.oneCell'=true):=by
    intro u hu;rw [HNV.out] at hu;exact Ca [x] u (by simp only [Aq,List.append_nil];exact hu)
   have HOA:=iH (HOW.out.alloc (Obj.cells (rrA x) 88));have hws:w2.heap.size≤wr.heap.size:=HB.out.size;go_wp2_with (at_builtin;refine wpList_append_own _ rfl _ _ 29 rfl w2.heap.size 88 i0 _ 11 104 Tryz.underlying29 hi hz0 hz1 hz2 rfl (by decide) _ k _ rfl HOA ⟨wr.heap.size,0,none⟩ 1 1 NV rfl HNL HNN HN1 (by unfold maxLen;omega) (by omega) (by simp;omega) ?_;intro v' w8 hown8 hgrow8 hnil8;have hv8:v'≠.slice none 0 0:=(fun e=>by have h9:=(hnil8.1 e).2;cases h9);obtain ⟨g8,q8,rfl⟩:=Co hown8 hv8);have HO8:Hid (w8.ownsRow w2.heap.size 88 11 (.slice (some ⟨g8,0,none⟩) (k+1) q8) (k+1) (Aq (xs.take (k+1)))):=by
    show World.ownsRow _ _ _ _ _ _ _
    rw [HST.out,Fh];rw [HNV.out] at hown8;simp only [Aq,List.append_nil];exact hown8
   have HB8:Hid (Below w2.heap.size w2 w8):=(HB.out.alloc HB.out.size _).grown hgrow8 (by have:=HB.out.size;simp;omega) (Lu HOW);clear hown8 hgrow8 hnil8 hv8 yl kc;go_wp2_with fail;go_roundw
   case rel=>exact ⟨k+1,some ⟨g8,0,none⟩,q8,by omega,by go_num,rfl,HO8,HB8⟩
   case measure=>simp [intOf];omega
end Go.Proofs.YtkiloaiffopllaaGreat
namespace Go.Proofs.YtkiloaiffopllaaGreat
open Go.RowKit
theorem bJ {xs:List Rn} {c:Int} {k:Nat} (hk:k<xs.length) (h:Hj (xs.map (·.want.copy)) k=false):rsB xs c=false:=by
 unfold rsB;rw [Cz h _ hk];simp
theorem Hi (xs:List Rn) (a:OA) (cap lo:Nat) (c:Int) (w:World) (hin:SliceC RnC 11 lo w a xs) (hsm:xs.length≤1048576) :
  Calls Tryz.prog 53 #[.slice a xs.length cap,.int .i64 c] w (Rt (.bool (rsB xs c)) w):=by
 have HI:=iH hin;clear hin;by_cases hl:xs.length≤20
 case neg =>
  have hl':(20:Int)<xs.length:=by omega
  have HE:Hid (rsB xs c=false):=by show _=_;unfold rsB;rw [decide_eq_false hl];rfl
  clear hl;go_enter Tryz.func53,Tryz.ntmps53;go_wp2_with fail;go_ret;exact ⟨Ac HE.out.symm,by go_grown⟩
 have hl':(xs.length:Int)≤20:=by omega
 go_enter Tryz.func53,Tryz.ntmps53;go_wp2_with fail;go_loopw [5] (fun i wr=>∃ k:Nat,k≤xs.length∧i=.int .i64 k∧Hid (∀ (j:Nat) x,j<k→xs[j]?=some x→roB x c=true)∧Hid (Aw (xs.map (·.want.copy)) k=true)∧Below w.heap.size w wr) (fun i _=>xs.length - (intOf i).toNat)
 case atStart=>exact ⟨0,zL,rfl,fun j q h=>by omega,rfl,by go_grown⟩
 case round =>
  obtain ⟨k,hk,rfl,hN,hA,hB⟩:=hrel;by_cases hlt:k<xs.length
  ·obtain ⟨y,hy⟩:=gXe hlt
   have HIR:=qSl RnC.holds HI hB;obtain ⟨b,o,rfl,_,hbl,hc⟩:=HIR.out.at hy;have hz:=hc;obtain ⟨_,_,_,_,_,_,_,_,_,_,_,z0,z2⟩:=hz;have HRY:=iH (Bc hc);have Z0:=iH z0;have Z2:=iH z2;have HYY:=iH hy;have HB:=iH hB;clear z0 z2 hc hy hB
   cases hro:roB y c with
   | false =>
    have HE:=iH (aB HYY hro);have HRO:=iH hro;clear hro HIR;go_wp2_with fail;refine wp_region_held_drew (S:=fun wy=>wy.rangeAt b (o+k*11) (rrL y)) (by kernel_rfl) (Cf HRY) (fun hS=>?_);refine tz 0 15 (.slice (some ⟨b,o,none⟩) xs.length cap) rfl hS ?_;simp only [pX];refine tz 1 16 (.int .i64 ((k:Nat):Int)) rfl hS ?_;simp only [pX];refine ty 2 ⟨some 17,_,_,_,_,none⟩ (.pointer (some ⟨b,o+k*11,none⟩)) rfl (by rfl) ?_ hS ?_
    ·intro wy hy
     clear hy
     first | (go_simp;done) | (go_simp;intro hh;omega)
    simp only [pX];refine tm 3 18 b (o+k*11) (rrL y) rfl (fun _ h=>h) Tryz.underlying88 Ag hS ?_;simp only [pX];refine tz 4 19 (.int .i64 c) rfl hS ?_;simp only [pX];refine rd1 5 ⟨some 20,_,_,_,_,none⟩ rfl (fun K hK=>?_);go_simp;refine (Hq y c _ Z0 Z2).mono ?_;rintro e w5 ⟨rfl,hb⟩;have HB5:=iH (HB.out.trans (((Below.refl wr.heap.size wr).drew.trans hb).mono HB.out.size));refine hK.out _ _ (Ba hS hb hbl) (fun hS=>?_);clear hK K;rw [HRO.out];clear hb;refine tz 6 21 (.bool true) rfl hS ?_;simp only [pX];refine tz 7 22 (.bool true) rfl hS ?_;simp only [pX];refine ts 8 23 rfl hS ?_;simp only [pX];refine ts 9 24 rfl hS ?_;simp only [pX];refine ts 10 25 rfl hS ?_;simp only [pX];refine ts 11 26 rfl hS ?_;simp only [pX];refine ts 12 27 rfl hS ?_;simp only [pX];refine ts 13 28 rfl hS ?_;simp only [pX];refine ts 14 29 rfl hS ?_;simp only [pX];refine ts 15 30 rfl hS ?_;simp only [pX];refine ts 16 31 rfl hS ?_;simp only [pX];refine ts 17 32 rfl hS ?_;simp only [pX];refine ts 18 33 rfl hS ?_;simp only [pX];refine ts 19 34 rfl hS ?_;simp only [pX];refine ts 20 35 rfl hS ?_;simp only [pX];refine ts 21 36 rfl hS ?_;simp only [pX];refine ts 22 37 rfl hS ?_;simp only [pX];refine ts 23 38 rfl hS ?_;simp only [pX];refine ts 24 39 rfl hS ?_;simp only [pX];refine ts 25 40 rfl hS ?_;simp only [pX];refine tz 26 41 (.bool true) rfl hS ?_;simp only [pX];refine td ?_;clear hS;go_wp2_with fail;go_ret;exact ⟨Ac HE.out.symm,HB5⟩
   | true =>
    have HRO:=iH hro;have HN2:Hid (∀ (j:Nat) z,j<k+1→xs[j]?=some z→roB z c=true):=fun j z hj hz=>by
     by_cases e:j=k
     ·subst e
      have:=HYY.out.symm.trans hz;cases this
      exact hro
     ·exact hN.out j z (by omega) hz
    clear hro
    cases k with
    | zero =>
     have HA2:Hid (Aw (xs.map (·.want.copy)) (0+1)=true):=rfl;clear HIR;go_wp2_with fail;refine wp_region_held_drew (S:=fun wy=>wy.rangeAt b (o+0*11) (rrL y)) (by kernel_rfl) (Cf HRY) (fun hS=>?_);refine tz 0 15 (.slice (some ⟨b,o,none⟩) xs.length cap) rfl hS ?_;simp only [pX];refine tz 1 16 (.int .i64 ((0:Nat):Int)) rfl hS ?_;simp only [pX];refine ty 2 ⟨some 17,_,_,_,_,none⟩ (.pointer (some ⟨b,o+0*11,none⟩)) rfl (by rfl) ?_ hS ?_
     ·intro wy hy
      clear hy
      first | (go_simp;done) | (go_simp;intro hh;omega)
     simp only [pX];refine tm 3 18 b (o+0*11) (rrL y) rfl (fun _ h=>h) Tryz.underlying88 Ag hS ?_;simp only [pX];refine tz 4 19 (.int .i64 c) rfl hS ?_;simp only [pX];refine rd1 5 ⟨some 20,_,_,_,_,none⟩ rfl (fun K hK=>?_);go_simp;refine (Hq y c _ Z0 Z2).mono ?_;rintro e w5 ⟨rfl,hb⟩;have HB5:=iH (HB.out.trans (((Below.refl wr.heap.size wr).drew.trans hb).mono HB.out.size));refine hK.out _ _ (Ba hS hb hbl) (fun hS=>?_);clear hK K;rw [HRO.out];clear hb;refine tz 6 21 (.bool false) rfl hS ?_;simp only [pX];refine tz 7 22 (.bool false) rfl hS ?_;simp only [pX];refine tz 8 23 (.int .i64 ((0:Nat):Int)) rfl hS ?_;simp only [pX];refine tz 9 24 (.bool false) rfl hS ?_;simp only [pX];refine tz 10 25 (.bool false) rfl hS ?_;simp only [pX];refine ts 11 26 rfl hS ?_;simp only [pX];refine ts 12 27 rfl hS ?_;simp only [pX];refine ts 13 28 rfl hS ?_;simp only [pX];refine ts 14 29 rfl hS ?_;simp only [pX];refine ts 15 30 rfl hS ?_;simp only [pX];refine ts 16 31 rfl hS ?_;simp only [pX];refine ts 17 32 rfl hS ?_;simp only [pX];refine ts 18 33 rfl hS ?_;simp only [pX];refine ts 19 34 rfl hS ?_;simp only [pX];refine ts 20 35 rfl hS ?_;simp only [pX];refine ts 21 36 rfl hS ?_;simp only [pX];refine ts 22 37 rfl hS ?_;simp only [pX];refine ts 23 38 rfl hS ?_;simp only [pX];refine ts 24 39 rfl hS ?_;simp only [pX];refine tz 25 40 (.bool false) rfl hS ?_;simp only [pX];refine tz 26 41 (.bool false) rfl hS ?_;simp only [pX];refine td ?_;clear hS;go_wp2_with fail;go_roundw
     case rel=>exact ⟨0+1,by omega,by go_num,HN2,HA2,HB5⟩
     case measure=>simp [intOf];omega
    | succ m =>
     obtain ⟨x,hx⟩:∃ x,xs[m]?=some x:=⟨xs[m],gE (by omega)⟩;obtain ⟨b',o',e',_,_,hcx⟩:=HIR.out.at hx;cases e'
     have HRX:=iH (Bc hcx);have HQA:=iH (Eo (ns:=xs.map (·.want.copy)) (m:=m) (s:=x.want.copy) (t:=y.want.copy) (by rw [List.getElem?_map,hx];rfl) (by rw [List.getElem?_map,HYY.out];rfl));generalize hq:Op.bytesLess x.want.copy.toList y.want.copy.toList=Q at HQA;have HQ:=iH hq;clear hq hx hcx HIR;go_wp2_with fail;refine wp_region_held_drew (S:=fun wy=>wy.rangeAt b (o+(m+1)*11) (rrL y)∧wy.rangeAt b (o+m*11) (rrL x)) (by kernel_rfl) (⟨Cf HRY,Cf HRX⟩) (fun hS=>?_);refine tz 0 15 (.slice (some ⟨b,o,none⟩) xs.length cap) rfl hS ?_;simp only [pX];refine tz 1 16 (.int .i64 ((m+1:Nat):Int)) rfl hS ?_;simp only [pX];refine ty 2 ⟨some 17,_,_,_,_,none⟩ (.pointer (some ⟨b,o+(m+1)*11,none⟩)) rfl (by rfl) ?_ hS ?_
     ·intro wy hy
      clear hy
      first | (go_simp;done) | (go_simp;intro hh;omega)
     simp only [pX];refine tk 3 ⟨some 18,_,_,_,_,none⟩ (.agg (rrA y)) rfl (yieldsIf_load_mid (by rfl) _ _ rfl b (o+(m+1)*11) rfl (rrL y) _ (fun _ h=>h.1) Tryz.underlying88 rfl Ag) hS ?_;simp only [pX];refine tz 4 19 (.int .i64 c) rfl hS ?_;simp only [pX];refine rd1 5 ⟨some 20,_,_,_,_,none⟩ rfl (fun K hK=>?_);go_simp;refine (Hq y c _ Z0 Z2).mono ?_;rintro e w5 ⟨rfl,hb⟩;have HB5:=iH (HB.out.trans (((Below.refl wr.heap.size wr).drew.trans hb).mono HB.out.size));refine hK.out _ _ ⟨Ba hS.1 hb hbl,Ba hS.2 hb hbl⟩ (fun hS=>?_);clear hK K;rw [HRO.out];clear hb;refine tz 6 21 (.bool false) rfl hS ?_;simp only [pX];refine tz 7 22 (.bool false) rfl hS ?_;simp only [pX];refine tz 8 23 (.int .i64 ((m+1:Nat):Int)) rfl hS ?_;simp only [pX];refine tz 9 24 (.bool true) rfl hS ?_;simp only [pX];refine tz 10 25 (.bool true) rfl hS ?_;simp only [pX];refine tz 11 26 (.slice (some ⟨b,o,none⟩) xs.length cap) rfl hS ?_;simp only [pX];refine tz 12 27 (.int .i64 ((m+1:Nat):Int)) rfl hS ?_;simp only [pX];refine ty 13 ⟨some 28,_,_,_,_,some (10,true)⟩ (.int .i64 (m:Int)) rfl (by rfl) ?_ hS ?_
     ·intro wy hy
      clear hy;go_simp;rw [IntKind.wrap_i64];omega
     simp only [pX];refine ty 14 ⟨some 29,_,_,_,_,some (10,true)⟩ (.pointer (some ⟨b,o+m*11,none⟩)) rfl (by rfl) ?_ hS ?_
     ·intro wy hy
      clear hy
      first | (go_simp;done) | (go_simp;intro hh;omega)
     simp only [pX];refine tz 15 30 (.pointer (some ⟨b,o+m*11,none⟩)) rfl hS ?_;simp only [pX];refine tz 16 31 (.pointer (some ⟨b,o+m*11,none⟩)) rfl hS ?_;simp only [pX];refine ty 17 ⟨some 32,_,_,_,_,some (10,true)⟩ (.string x.want.copy) rfl (by rfl) ?_ hS ?_
     ·intro wy hy
      have h0:=hy.2 0 _ rfl;simp only [Nat.add_zero] at h0;clear hy;go_simp
     simp only [pX];refine tz 18 33 (.slice (some ⟨b,o,none⟩) xs.length cap) rfl hS ?_;simp only [pX];refine tz 19 34 (.int .i64 ((m+1:Nat):Int)) rfl hS ?_;simp only [pX];refine ty 20 ⟨some 35,_,_,_,_,some (10,true)⟩ (.pointer (some ⟨b,o+(m+1)*11,none⟩)) rfl (by rfl) ?_ hS ?_
     ·intro wy hy
      clear hy
      first | (go_simp;done) | (go_simp;intro hh;omega)
     simp only [pX];refine tz 21 36 (.pointer (some ⟨b,o+(m+1)*11,none⟩)) rfl hS ?_;simp only [pX];refine tz 22 37 (.pointer (some ⟨b,o+(m+1)*11,none⟩)) rfl hS ?_;simp only [pX];refine ty 23 ⟨some 38,_,_,_,_,some (10,true)⟩ (.string y.want.copy) rfl (by rfl) ?_ hS ?_
     ·intro wy hy
      have h0:=hy.1 0 _ rfl;simp only [Nat.add_zero] at h0;clear hy;go_simp
     simp only [pX];refine ty 24 ⟨some 39,_,_,_,_,some (10,true)⟩ (.bool (!Q)) rfl (by rfl) ?_ hS ?_
     ·intro wy hy
      clear hy;go_simp;rw [HQ.out]
     simp only [pX];refine tz 25 40 (.bool (!Q)) rfl hS ?_;simp only [pX];refine tz 26 41 (.bool (!Q)) rfl hS ?_;simp only [pX];refine td ?_;clear hS
     cases Q with
     | false =>
      have HE:=iH (bJ (c:=c) hlt HQA);go_wp2_with fail;go_ret;exact ⟨Ac HE.out.symm,HB5⟩
     | true =>
      have HA2:Hid (Aw (xs.map (·.want.copy)) (m+1+1)=true):=by show _=_;rw [Aw,hA.out,HQA.out];rfl
      go_wp2_with fail;go_roundw
      case rel=>exact ⟨m+1+1,by omega,by go_num,HN2,HA2,HB5⟩
      case measure=>simp [intOf];omega
  ·have hke:k=xs.length:=by omega
   subst hke;have HE:=iH (Ve hl hA.out hN.out);go_wp2_with fail;go_ret;exact ⟨Ac HE.out.symm,hB⟩
end Go.Proofs.YtkiloaiffopllaaGreat
