import Derived.Test.YtkiloaiffopllaaGreatJ26
set_option maxHeartbeats 8000000
namespace Go.Proofs.YtkiloaiffopllaaGreat
set_option maxRecDepth 100000
open Go.RowKit
def rnC (x:Rn):List Value:=(rrL x)
def rnV:List Rn→List Value
 | []=>[]
 | x::r=>rnC x++rnV r
theorem Ib (x:Rn):(rnC x).length=11:=rfl
theorem Lt:∀ xs:List Rn,(rnV xs).length=xs.length*11
 | []=>rfl
 | x::r=>by
  have:=Lt r;simp only [rnV,List.length_append,List.length_cons,Ib];omega
theorem Qf:∀ (xs:List Rn) (k:Nat) (x:Rn) (j:Nat),xs[k]?=some x→j<11→(rnV xs)[k*11+j]?=(rnC x)[j]?
 | [],_,_,_,h,_=>by simp at h
 | y::r,0,x,j,h,hj=>by
  simp at h;subst h;simp only [rnV];rw [List.getElem?_append_left (by rw [Ib];omega)];simp
 | y::r,k+1,x,j,h,hj=>by
  simp at h;simp only [rnV];rw [List.getElem?_append_right (by rw [Ib];omega),Ib,show (k+1)*11+j - 11=k*11+j by omega];exact Qf r k x j h hj
theorem Il:∀ (vs a b:List Value) (o:Nat),a.length≤o→Ce (a++b) o vs=a++Ce b (o - a.length) vs
 | [],_,_,_,_=>rfl
 | v::vs,a,b,o,h=>by
  simp only [Ce];rw [List.set_append_right _ _ h,Il vs a _ (o+1) (by omega),show o+1 - a.length=o - a.length+1 by omega]
theorem Po (y:Rn) (x:Rn) (b:List Value):Ce (rnC x++b) 0 (rnC y)=rnC y++b:=rfl
theorem Vk:∀ (xs:List Rn) (k:Nat) (x y:Rn),xs[k]?=some x→Ce (rnV xs) (k*11) (rnC y)=rnV (xs.set k y)
 | [],_,_,_,h=>by simp at h
 | z::r,0,x,y,h=>Po y z (rnV r)
 | z::r,k+1,x,y,h=>by
  simp at h;simp only [rnV,List.set_cons_succ];rw [Il _ _ _ _ (by rw [Ib];omega),Ib,show (k+1)*11 - 11=k*11 by omega,Vk r k x y h]
theorem Kc:∀ (xs:List Rn),∀ u∈rnV xs,u.oneCell'=true
 | [],u,h=>by cases h
 | x::r,u,h=>by
  simp only [rnV,List.mem_append] at h;rcases h with h | h
  ·have:∀ v∈rnC x,v.oneCell'=true:=by
    intro v hv;simp only [rnC,List.mem_cons,List.not_mem_nil,or_false] at hv;rcases hv with rfl | rfl | rfl | rfl | rfl | rfl | rfl | rfl | rfl | rfl | rfl <;> rfl
   exact this u h
  ·exact Kc r u h
theorem Gh:∀ (xs ys:List Rn),rnV (xs++ys)=rnV xs++rnV ys
 | [],_=>rfl
 | x::r,ys=>by simp only [List.cons_append,rnV,Gh r ys,List.append_assoc]
theorem Ww {lo:Nat} {w:World} {f:Nat→Option Value} {x:Rn} (h:RnC lo w f x) (j:Nat) (v:Value) (hv:(rnC x)[j]?=some v):f j=some v:=by
 obtain ⟨q0,q1,q2,q3,q4,q5,q6,q7,q8,q9,q10,_,_⟩:=h;have hj:j<11:=Ah hv;have hc:j=0∨j=1∨j=2∨j=3∨j=4∨j=5∨j=6∨j=7∨j=8∨j=9∨j=10:=by omega
 rcases hc with rfl | rfl | rfl | rfl | rfl | rfl | rfl | rfl | rfl | rfl | rfl <;> (cases hv;assumption)
theorem Wy {lo:Nat} {w:World} {f:Nat→Option Value} {x:Rn} (h:∀ j v,(rnC x)[j]?=some v→f j=some v) (z0:x.want.copy.size≤maxLen) (z2:x.want.hold.size≤maxLen):RnC lo w f x :=
 ⟨h 0 _ rfl,h 1 _ rfl,h 2 _ rfl,h 3 _ rfl,h 4 _ rfl,h 5 _ rfl,h 6 _ rfl,h 7 _ rfl,h 8 _ rfl,h 9 _ rfl,h 10 _ rfl,z0,z2⟩
theorem Uj {lo:Nat} {w:World} {b o:Nat} {xs:List Rn} (h:SliceC RnC 11 lo w (some ⟨b,o,none⟩) xs) (j:Nat) (u:Value) (hu:(rnV xs)[j]?=some u):w.cell? ((⟨b,o,none⟩:Addr).add j)=some u:=by
 have hl:j<xs.length*11:=by have:=Ah hu;rwa [Lt] at this
 obtain ⟨x,hx⟩:∃ x,xs[j / 11]?=some x:=⟨xs[j / 11]'(by omega),gE (by omega)⟩;obtain ⟨b',o',e,_,_,hc⟩:=h.at hx;cases e
 rw [show j=j / 11*11+j % 11 by omega,Qf xs (j / 11) x (j % 11) hx (by omega)] at hu;have:=Ww hc (j % 11) u hu;rw [Addr.add_mid,show o+j=o+j / 11*11+j % 11 by omega];exact this
theorem Yy {base g cap:Nat} {w:World} {xs:List Rn} (h:w.ownsRow base 88 11 (.slice (some ⟨g,0,none⟩) xs.length cap) xs.length (rnV xs)) (hm:xs.length≤maxLen) (hb:base≤g) (hz:∀ x∈xs,x.want.copy.size≤maxLen∧x.want.hold.size≤maxLen):SliceC RnC 11 base w (some ⟨g,0,none⟩) xs:=by
 refine ⟨hm,.inr ⟨g,0,rfl,⟨hb,fun _ p=>h.frozenAt p⟩,(h.lt g rfl).2,fun k x hk=>?_⟩⟩;have hlt:=Ah hk;refine Wy (fun j v hv=>?_) (hz x (List.mem_of_getElem? hk)).1 (hz x (List.mem_of_getElem? hk)).2;have hj:j<11:=Ah hv;show w.cell? ⟨g,0+k*11+j,none⟩=some v
 have:=h.cellAt (k*11+j) (by omega);rw [Nat.zero_add];rw [this,Qf xs k x j hk hj];exact hv
theorem Js {base g cap n:Nat} {w:World} {e:TypeId} {s:Nat} {cs:List Value} (h:w.ownsRow base e s (.slice (some ⟨g,0,none⟩) n cap) n cs):base≤g:=by
 rcases h.2 with ⟨h1,_⟩ | ⟨g',cap',cur,h1,h2,_⟩
 ·cases h1
 ·cases h1;exact h2
theorem Jk {base n:Nat} {w:World} {e:TypeId} {s:Nat} {cs:List Value} {v:Value} (h:w.ownsRow base e s v n cs) (hn:v≠.slice none 0 0):∃ g cap,v=.slice (some ⟨g,0,none⟩) n cap:=by
 rcases h.2 with ⟨h1,_⟩ | ⟨g',cap',cur,h1,_⟩
 ·exact absurd h1 hn
 ·exact ⟨g',cap',h1⟩
theorem Tz (xs:List Rn) (b ob cap lo:Nat) (w:World) (hin:SliceC RnC 11 lo w (some ⟨b,ob,none⟩) xs) (hsm:xs.length≤1048576) :
  Calls Tryz.prog 106 #[.slice (some ⟨b,ob,none⟩) xs.length cap] w fun e w'=>∃ g c,e=.returned (.slice (some ⟨g,0,none⟩) xs.length c)∧w'.ownsRow w.heap.size 88 11 (.slice (some ⟨g,0,none⟩) xs.length c) xs.length (rnV xs)∧Below w.heap.size w w':=by
 obtain ⟨i0,hi,hz0,hz1,hz2⟩:=info_parts Ei;have q22:∀ (w:World) (a:OA) (n c n' c':Nat),(binOp .eql 29 (.slice a n c) (.slice none n' c')).run Tryz.prog w=.ok (.bool a.isNone) w:=fun w a n c n' c'=>Lib.run_eql_slice_nil w _ _ a n c n' c' Tryz.underlying29
 have HS:Hid (∀ j u,(rnV xs)[j]?=some u→w.cell? ((⟨b,ob,none⟩:Addr).add j)=some u):=Uj hin;clear hin;go_enter Tryz.func106,Tryz.ntmps106;go_wp2_with (at_builtin;refine wpList_append_own _ rfl _ _ 29 rfl w.heap.size 88 i0 _ 11 104 Tryz.underlying29 hi hz0 hz1 hz2 rfl (by decide) _ _ _ rfl (World.ownsRow_made w #[] 0 nL (zL) rfl) ⟨b,ob,none⟩ xs.length _ (rnV xs) rfl (by rw [Lt]) (fun j u hj=>Lib.cell?_alloc_some _ (HS j u hj)) (Kc xs) (by unfold maxLen;omega) (by omega) (by simp) ?_;intro v' w1 hown hgrow hnil);have hv:v'≠.slice none 0 0:=fun e=>by have:=(hnil.1 e).1;cases this
 have hown':w1.ownsRow w.heap.size 88 11 v' xs.length (rnV xs):=by simpa using hown
 obtain ⟨g,c,rfl⟩:=Jk hown' hv;have HO:=iH hown';have hB:Below w.heap.size w w1:=((Below.refl _ w).alloc nL _).grown hgrow (by simp) (by intro k hk;cases hk;exact Nat.le_refl _);clear hown hgrow hnil hv hown';go_wp2_with fail;go_ret;exact ⟨g,c,rfl,HO,hB⟩
def Kq (c:Int) (xs:List Rn) (k:Nat):List Rn:=(xs.take k).map (wdR · c)++xs.drop k
theorem Yl (c:Int) (xs:List Rn) (k:Nat):(Kq c xs k).length=xs.length:=by simp [Kq];omega
theorem Uy {c:Int} {xs:List Rn} {k:Nat} {x:Rn} (h:xs[k]?=some x):(Kq c xs k)[k]?=some x:=by
 have hl:=Ah h;unfold Kq;rw [List.getElem?_append_right (by simp;omega)];simp only [List.length_map,List.length_take,List.getElem?_drop];rw [show k+(k - min k xs.length)=k by omega];exact h
theorem Xf {c:Int} {xs:List Rn} {k:Nat} {x:Rn} (h:xs[k]?=some x):(Kq c xs k).set k (wdR x c)=Kq c xs (k+1):=by
 have hl:=Ah h;unfold Kq;rw [List.set_append_right _ _ (by simp;omega)];simp only [List.length_map,List.length_take];rw [show k - min k xs.length=0 by omega,List.drop_eq_getElem_cons hl,List.set_cons_zero,List.take_add_one,h];have e:xs[k]=x:=by rw [gE hl] at h;exact Option.some.inj h
 simp
theorem Yr (c:Int) (xs:List Rn):Kq c xs xs.length=xs.map (wdR · c):=by simp [Kq]
theorem Yb (xs:List Rn) (b ob cap lo:Nat) (c:Int) (p:Nat) (w:World) (hin:SliceC RnC 11 lo w (some ⟨b,ob,none⟩) xs) (hsm:xs.length≤1048576) (hz:∀ x∈xs,x.want.copy.size≤1048576∧x.want.hold.size≤1048576) (hP:w.cell? ⟨p,0,none⟩=some (.int .i64 c)) (hp:p<w.heap.size) :
  Calls Tryz.prog 70 #[.slice (some ⟨b,ob,none⟩) xs.length cap,.func (.func 75) #[] #[.pointer (some ⟨p,0,none⟩)]] w fun e w'=>∃ g q,e=.returned (.slice (some ⟨g,0,none⟩) xs.length q)∧w'.ownsRow w.heap.size 88 11 (.slice (some ⟨g,0,none⟩) xs.length q) xs.length (rnV (xs.map (wdR · c)))∧Below w.heap.size w w':=by
 have HI:=iH hin;have HZ:=iH hz;have HP:=iH hP;clear hin hz hP;go_enter Tryz.func70,Tryz.ntmps70;go_wp2_with fail;refine (Tz xs b ob cap lo _ HI hsm).mono ?_;rintro e w1 ⟨g,q,rfl,hO1,hB1⟩;have HO1:=iH hO1;clear hO1;go_wp2_with fail;go_loopw [11] (fun i wr=>∃ k:Nat,k≤xs.length∧i=.int .i64 k∧Hid (wr.ownsRow w.heap.size 88 11 (.slice (some ⟨g,0,none⟩) xs.length q) xs.length (rnV (Kq c xs k)))∧Below w.heap.size w wr) (fun i _=>xs.length - (intOf i).toNat)
 case atStart=>exact ⟨0,zL,rfl,by show World.ownsRow _ _ _ _ _ _ _;rw [show Kq c xs 0=xs by simp [Kq]];exact HO1.out,hB1⟩
 case round =>
  clear HO1 hB1;obtain ⟨k,hk,rfl,HO,hB⟩:=hrel;by_cases hlt:k<xs.length
  ·obtain ⟨x,hx⟩:=gXe hlt
   have HXX:=iH hx;have Z:=iH (HZ x (List.mem_of_getElem? hx));have hgl:g<wr.heap.size:=(HO.out.lt g rfl).2;have hgb:w.heap.size≤g:=Js HO;have HRA:Hid (wr.rangeAt g (k*11) (rrL x)):=fun j v hv=>by
    have hj:j<11:=Ah hv;have h1:=HO.out.cellAt (k*11+j) (by omega);rw [Qf _ k x j (Uy hx) hj] at h1;exact h1.trans hv
   clear hx;have hza:=Blk.alloc wr RrA 88;have HTS:Hid ((wr.alloc (Obj.cells RrA 88)).there wr.heap.size 0 11):=hza.there;obtain ⟨w4,HW4⟩:∃ w4,Hid (w4=(wr.alloc (Obj.cells RrA 88)).setCells wr.heap.size 0 (rrL x)):=⟨_,rfl⟩;have HK4:Hid (Blk wr.heap.size (rrA x) 88 w4):=by
    show Blk _ _ _ _
    rw [HW4.out];exact hza.setAll (rrA x) rfl
   have hbx:Below wr.heap.size wr w4:=by
    rw [HW4.out];exact Aa nL _ _ _ ((Below.refl _ wr).alloc nL _)
   have hB4:=qTr hB hbx;have HO4:=iH (Ae HO hbx);clear hza hbx HO hB;go_upto_region 5 with (first | (refine qLr Bi HRA ?_) | (refine Ab rfl 88 _ _ rfl wr.heap.size 0 (rrA x) rfl rfl HTS Ag (by simp [Value.oneCell']) w4 HW4 ?_));clear HRA HTS HW4;go_wp2_with (first | (refine qLk Bi HK4 ?_));refine (Tv x c p _ ((hB4.cell (p:=⟨p,0,none⟩) hp).trans HP) (lL hp hB4.size) Z.out.1 Z.out.2).mono ?_;rintro e w5 ⟨rfl,hb5⟩;have HO5:=iH (Ae HO4 hb5);have hB5:=qTr hB4 hb5;clear hb5 hB4 HO4 HK4;have HT5:Hid (w5.there g (k*11) 11):=Cg HO5 (by rw [Lt,Yl];omega);obtain ⟨w6,HW6⟩:∃ w6,Hid (w6=w5.setCells g (k*11) (rnC (wdR x c))):=⟨_,rfl⟩;have HO6:Hid (w6.ownsRow w.heap.size 88 11 (.slice (some ⟨g,0,none⟩) xs.length q) xs.length (rnV (Kq c xs (k+1)))):=by
    show World.ownsRow _ _ _ _ _ _ _
    rw [HW6.out,← Xf HXX.out,← Vk _ k x _ (Uy HXX)];exact Cp _ _ _ _ HO5
   have hB6:Below w.heap.size w w6:=by
    rw [HW6.out];exact Aa hgb _ _ _ hB5
   unfold rnC at HW6;clear hB5 HO5;generalize wdR x c=G at *;have i0:(0:Int)≤(k:Int):=by omega
   have i1:(k:Int)<(xs.length:Int):=by omega
   go_wp2_with (first | (refine Ab rfl 88 _ _ rfl g (k*11) (rrA G) (by first | rfl | (simp [go_sem];done)) rfl HT5 Ag (by simp [Value.oneCell']) w6 HW6 ?_));go_roundw
   case rel=>exact ⟨k+1,by omega,by go_num,HO6,hB6⟩
   case measure=>simp [intOf];omega
  ·have hke:k=xs.length:=by omega
   subst hke;rw [Yr] at HO;go_wp2_with fail;go_ret;exact ⟨g,q,rfl,HO,hB⟩
theorem Nw (xs:List Rn) (b ob cap lo:Nat) (c:Int) (w:World) (hin:SliceC RnC 11 lo w (some ⟨b,ob,none⟩) xs) (hsm:xs.length≤1048576) (hz:∀ x∈xs,x.want.copy.size≤1048576∧x.want.hold.size≤1048576) :
  Calls Tryz.prog 31 #[.slice (some ⟨b,ob,none⟩) xs.length cap,.int .i64 c] w fun e w'=>∃ g q,e=.returned (.slice (some ⟨g,0,none⟩) xs.length q)∧SliceC RnC 11 (w.heap.size+1) w' (some ⟨g,0,none⟩) (xs.map (wdR · c))∧w.heap.size+1≤w'.heap.size∧Below w.heap.size w w':=by
 have hP:(w.alloc (Obj.cells #[.int .i64 c] 3)).cell? ⟨w.heap.size,0,none⟩=some (.int .i64 c):=(Blk.alloc w #[.int .i64 c] 3).cell rfl;have hb0:=(Below.refl _ w).alloc nL (Obj.cells #[.int .i64 c] 3);have hs:w.heap.size<(w.alloc (Obj.cells #[.int .i64 c] 3)).heap.size:=by simp
 have hs1:(w.alloc (Obj.cells #[.int .i64 c] 3)).heap.size=w.heap.size+1:=by simp
 have HI:=iH (hin.below RnC.holds hb0 nL);have HP:=iH hP;have HZ:=iH hz;clear hin hz hP;go_enter Tryz.func31,Tryz.ntmps31;go_wp2_with fail;generalize w.alloc (Obj.cells #[.int .i64 c] 3)=w0 at *;refine (Yb xs b ob cap lo c w.heap.size w0 HI hsm HZ HP hs).mono ?_;rintro e w1 ⟨g,q,rfl,hO1,hb1⟩;have HS:Hid (SliceC RnC 11 (w.heap.size+1) w1 (some ⟨g,0,none⟩) (xs.map (wdR · c))):=by
  rw [hs1] at hO1;have hl:(xs.map (wdR · c)).length=xs.length:=by simp
  rw [← hl] at hO1;refine Yy hO1 (by rw [hl];unfold maxLen;omega) (Js hO1) (fun x hx=>?_);obtain ⟨y,hy,rfl⟩:=List.mem_map.1 hx;have:=HZ.out y hy;rw [Gb];unfold maxLen;omega
 have hsz:w.heap.size+1≤w1.heap.size:=by have:=hb1.size;omega
 have hB1:=qTr hb0 hb1;clear hO1 hb1 hb0;go_wp2_with fail;go_ret;exact ⟨g,q,rfl,HS,hsz,hB1⟩
theorem Fj {base:Nat} {e:TypeId} {s n:Nat} {v:Value} {cs:List Value} {w:World} (h:w.ownsRow base e s v n cs) {a:Addr} (u:Value) (hne:∀ g c,v=.slice (some ⟨g,0,none⟩) n c→g≠a.block):(w.setCell a u).ownsRow base e s v n cs:=by
 refine ⟨h.1,?_⟩;rcases h.2 with h' | ⟨g,cap,cur,h1,h2,h3,h4⟩
 ·exact .inl h'
 ·exact .inr ⟨g,cap,cur,h1,h2,(Below.heap_setCell w a u g (hne g cap h1)).trans h3,h4⟩
theorem Oc (xs:List Rn) (a:OA) (cap lo:Nat) (c:Int) (w:World) (hin:SliceC RnC 11 lo w a xs) (hsm:xs.length≤1048576) :
  Calls Tryz.prog 21 #[.slice a xs.length cap,.int .i64 c] w fun e w'=>∃ g q,e=.returned (.slice (some ⟨g,0,none⟩) xs.length q)∧SliceC RnC 11 w.heap.size w' (some ⟨g,0,none⟩) (xs.map (wdR · c))∧g<w'.heap.size∧Below w.heap.size w w':=by
 obtain ⟨i0,hi,hz0,hz1,hz2⟩:=info_parts Ei;have HI:=iH hin;clear hin;go_enter Tryz.func21,Tryz.ntmps21;go_wp2_with fail;go_loopw [5,6] (fun v i wr=>∃ (k g q:Nat),k≤xs.length∧i=.int .i64 k∧v=.slice (some ⟨g,0,none⟩) k q∧Hid (wr.ownsRow w.heap.size 88 11 (.slice (some ⟨g,0,none⟩) k q) k (rnV ((xs.take k).map (wdR · c))))∧Below w.heap.size w wr) (fun _ i _=>xs.length - (intOf i).toNat)
 case atStart=>exact ⟨0,w.heap.size,0,zL,rfl,rfl,World.ownsRow_made w #[] 0 nL (zL) rfl,(Below.refl _ w).alloc nL _⟩
 case round =>
  obtain ⟨k,g,q,hk,rfl,rfl,HO,hB⟩:=hrel;by_cases hlt:k<xs.length
  ·obtain ⟨x,hx⟩:=gXe hlt
   obtain ⟨b,ob,rfl,_,hbl,hc⟩:=(HI.out.below RnC.holds hB nL).at hx;have HRA:=iH (Bc hc);have HXX:=iH hx;have hgb:w.heap.size≤g:=Js HO;have hgl:g<wr.heap.size:=(HO.out.lt g rfl).2;clear hc hx;have hza:=Blk.alloc wr RrA 88;have HTS:Hid ((wr.alloc (Obj.cells RrA 88)).there wr.heap.size 0 11):=hza.there;obtain ⟨w4,HW4⟩:∃ w4,Hid (w4=(wr.alloc (Obj.cells RrA 88)).setCells wr.heap.size 0 (rrL x)):=⟨_,rfl⟩;have HK4:Hid (Blk wr.heap.size (rrA x) 88 w4):=by
    show Blk _ _ _ _
    rw [HW4.out];exact hza.setAll (rrA x) rfl
   have hbx:Below wr.heap.size wr w4:=by
    rw [HW4.out];exact Aa nL _ _ _ ((Below.refl _ wr).alloc nL _)
   have hB4:=qTr hB hbx;have HO4:=iH (Ae HO hbx);have hwr:w.heap.size≤wr.heap.size:=hB.size;clear hza hbx HO hB;go_upto_region 6 with (first | (refine qLr Bi HRA ?_) | (refine Ab rfl 88 _ _ rfl wr.heap.size 0 (rrA x) rfl rfl HTS Ag (by simp [Value.oneCell']) w4 HW4 ?_));clear HRA HTS HW4;go_wp2_with (first | (refine qLk Bi HK4 ?_));refine (Av x _).mono ?_;rintro e w5 ⟨rfl,hb5⟩;have HK5:=qBk HK4 hb5;have HO5:=iH (Ae HO4 hb5);have hB5:=qTr hB4 hb5;clear hb5 hB4 HO4 HK4
   cases ha:alB x.state with
   | false =>
    have HW:Hid (wdR x c=x):=if_neg (by rw [ha];simp);clear ha;obtain ⟨NV,hnv⟩:∃ l,l=rnC x:=⟨_,rfl⟩;have HNV:=iH hnv;clear hnv;have HNL:Hid (NV.length=1*11):=by show _=_;rw [HNV.out];rfl
    have HNN:Hid (∀ j u,NV[j]?=some u→(w5.alloc (Obj.cells (rrA x) 88)).cell? ((⟨w5.heap.size,0,none⟩:Addr).add j)=some u):=by
     intro j u hj;rw [Addr.add_mid];rw [HNV.out] at hj;exact (Blk.alloc w5 (rrA x) 88).rangeA j u hj
    have HN1:Hid (∀ u∈NV,u.oneCell'=true):=by
     intro u hu;rw [HNV.out] at hu;exact Kc [x] u (by simp only [rnV,List.append_nil];exact hu)
    have HOA:=iH (HO5.out.alloc (Obj.cells (rrA x) 88));go_wp2_with (first | (refine qLk Bi HK5 ?_) | (at_builtin;refine wpList_append_own _ rfl _ _ 29 rfl w.heap.size 88 i0 _ 11 104 Tryz.underlying29 hi hz0 hz1 hz2 rfl (by decide) _ k _ rfl HOA ⟨w5.heap.size,0,none⟩ 1 1 NV rfl HNL HNN HN1 (by unfold maxLen;omega) (by omega) (by have:=hB5.size;simp;omega) ?_;intro v' w8 hown8 hgrow8 hnil8;have hv8:v'≠.slice none 0 0:=(fun e=>by have:=(hnil8.1 e).1;cases this);obtain ⟨g8,q8,rfl⟩:=Jk hown8 hv8));have HO8:Hid (w8.ownsRow w.heap.size 88 11 (.slice (some ⟨g8,0,none⟩) (k+1) q8) (k+1) (rnV ((xs.take (k+1)).map (wdR · c)))):=by
     show World.ownsRow _ _ _ _ _ _ _
     rw [List.take_add_one,HXX.out,List.map_append,Gh];rw [HNV.out] at hown8;simp only [Option.toList_some,List.map_cons,List.map_nil,rnV,List.append_nil];rw [HW.out];exact hown8
    have hB8:Below w.heap.size w w8:=(hB5.alloc hB5.size _).grown hgrow8 (by have:=hB5.size;simp;omega) (by intro j hj;cases hj;exact hgb);clear hown8 hgrow8 hnil8 hv8;go_wp2_with fail;go_roundw
    case rel=>exact ⟨k+1,g8,q8,by omega,by go_num,rfl,HO8,hB8⟩
    case measure=>simp [intOf];omega
   | true =>
    have HWA:Hid (wdR x c=if lsB x c=true then x else { x with state:=2,left:=0 }):=if_pos ha;clear ha;have k0:w5.cell? ⟨wr.heap.size,0,none⟩=some (.string x.want.copy):=HK5.out.cell rfl;have k1:w5.cell? ⟨wr.heap.size,1,none⟩=some (.int .i64 x.want.version):=HK5.out.cell rfl;have k2:w5.cell? ⟨wr.heap.size,2,none⟩=some (.string x.want.hold):=HK5.out.cell rfl;have k3:w5.cell? ⟨wr.heap.size,3,none⟩=some (.int .i64 x.want.pull):=HK5.out.cell rfl;have k4:w5.cell? ⟨wr.heap.size,4,none⟩=some (.int .i64 x.want.start):=HK5.out.cell rfl;have k5:w5.cell? ⟨wr.heap.size,5,none⟩=some (.int .i64 x.want.dies):=HK5.out.cell rfl;have k6:w5.cell? ⟨wr.heap.size,6,none⟩=some (.int .i64 x.want.grace):=HK5.out.cell rfl;have k7:w5.cell? ⟨wr.heap.size,7,none⟩=some (.int .i64 x.state):=HK5.out.cell rfl;have k8:w5.cell? ⟨wr.heap.size,8,none⟩=some (.int .i64 x.left):=HK5.out.cell rfl;have k9:w5.cell? ⟨wr.heap.size,9,none⟩=some (.int .i64 x.falls):=HK5.out.cell rfl;have k10:w5.cell? ⟨wr.heap.size,10,none⟩=some (.int .i64 x.until_):=HK5.out.cell rfl;go_wp2_with fail;refine (Df x c _).mono ?_;rintro e w6 ⟨rfl,hb6⟩;have HK6:=qBk HK5 hb6;have HO6:=iH (Ae HO5 hb6);have hB6:=qTr hB5 hb6;clear hb6 hB5 HO5 HK5 k0 k1 k2 k3 k4 k5 k6 k7 k8 k9 k10
    cases hl:lsB x c with
    | true =>
     have HW:Hid (wdR x c=x):=HWA.out.trans (if_pos hl);clear hl HWA;obtain ⟨NV,hnv⟩:∃ l,l=rnC x:=⟨_,rfl⟩;have HNV:=iH hnv;clear hnv;have HNL:Hid (NV.length=1*11):=by show _=_;rw [HNV.out];rfl
     have HNN:Hid (∀ j u,NV[j]?=some u→(w6.alloc (Obj.cells (rrA x) 88)).cell? ((⟨w6.heap.size,0,none⟩:Addr).add j)=some u):=by
      intro j u hj;rw [Addr.add_mid];rw [HNV.out] at hj;exact (Blk.alloc w6 (rrA x) 88).rangeA j u hj
     have HN1:Hid (∀ u∈NV,u.oneCell'=true):=by
      intro u hu;rw [HNV.out] at hu;exact Kc [x] u (by simp only [rnV,List.append_nil];exact hu)
     have HOA:=iH (HO6.out.alloc (Obj.cells (rrA x) 88));go_wp2_with (first | (refine qLk Bi HK6 ?_) | (at_builtin;refine wpList_append_own _ rfl _ _ 29 rfl w.heap.size 88 i0 _ 11 104 Tryz.underlying29 hi hz0 hz1 hz2 rfl (by decide) _ k _ rfl HOA ⟨w6.heap.size,0,none⟩ 1 1 NV rfl HNL HNN HN1 (by unfold maxLen;omega) (by omega) (by have:=hB6.size;simp;omega) ?_;intro v' w8 hown8 hgrow8 hnil8;have hv8:v'≠.slice none 0 0:=(fun e=>by have:=(hnil8.1 e).1;cases this);obtain ⟨g8,q8,rfl⟩:=Jk hown8 hv8));have HO8:Hid (w8.ownsRow w.heap.size 88 11 (.slice (some ⟨g8,0,none⟩) (k+1) q8) (k+1) (rnV ((xs.take (k+1)).map (wdR · c)))):=by
      show World.ownsRow _ _ _ _ _ _ _
      rw [List.take_add_one,HXX.out,List.map_append,Gh];rw [HNV.out] at hown8;simp only [Option.toList_some,List.map_cons,List.map_nil,rnV,List.append_nil];rw [HW.out];exact hown8
     have hB8:Below w.heap.size w w8:=(hB6.alloc hB6.size _).grown hgrow8 (by have:=hB6.size;simp;omega) (by intro j hj;cases hj;exact hgb);clear hown8 hgrow8 hnil8 hv8;go_wp2_with fail;go_roundw
     case rel=>exact ⟨k+1,g8,q8,by omega,by go_num,rfl,HO8,hB8⟩
     case measure=>simp [intOf];omega
    | false =>
     have HW:Hid (wdR x c={ x with state:=2,left:=0 }):=HWA.out.trans (if_neg (by rw [hl];simp));clear hl HWA;have k7:w6.cell? ⟨wr.heap.size,7,none⟩=some (.int .i64 x.state):=HK6.out.cell rfl;have k8:w6.cell? ⟨wr.heap.size,8,none⟩=some (.int .i64 x.left):=HK6.out.cell rfl;have f7:w6.frozen? ⟨wr.heap.size,7,none⟩=false:=HK6.out.frozen _;have f8:w6.frozen? ⟨wr.heap.size,8,none⟩=false:=HK6.out.frozen _;have HK9:Hid (Blk wr.heap.size #[.string x.want.copy,.int .i64 x.want.version,.string x.want.hold,.int .i64 x.want.pull,.int .i64 x.want.start,.int .i64 x.want.dies,.int .i64 x.want.grace,.int .i64 2,.int .i64 0,.int .i64 x.falls,.int .i64 x.until_] 88 ((w6.setCell ⟨wr.heap.size,7,none⟩ (.int .i64 2)).setCell ⟨wr.heap.size,8,none⟩ (.int .i64 0))):=(HK6.out.set 7 _).set 8 _;have HO9:Hid (World.ownsRow ((w6.setCell ⟨wr.heap.size,7,none⟩ (.int .i64 2)).setCell ⟨wr.heap.size,8,none⟩ (.int .i64 0)) w.heap.size 88 11 (.slice (some ⟨g,0,none⟩) k q) k (rnV ((xs.take k).map (wdR · c)))):=Fj (Fj HO6 _ (fun g' c' e=>by cases e;show g≠wr.heap.size;omega)) _ (fun g' c' e=>by cases e;show g≠wr.heap.size;omega);have hB9:Below w.heap.size w ((w6.setCell ⟨wr.heap.size,7,none⟩ (.int .i64 2)).setCell ⟨wr.heap.size,8,none⟩ (.int .i64 0)):=(hB6.setCell (p:=⟨wr.heap.size,7,none⟩) hwr _).setCell (p:=⟨wr.heap.size,8,none⟩) hwr _;go_upto_region 9 with fail;generalize (w6.setCell ⟨wr.heap.size,7,none⟩ (Value.int .i64 2)).setCell ⟨wr.heap.size,8,none⟩ (Value.int .i64 0)=w9 at *;clear k7 k8 f7 f8 hB6 HO6 HK6;obtain ⟨NV,hnv⟩:∃ l,l=rnC ({ x with state:=2,left:=0 }:Rn):=⟨_,rfl⟩;have HNV:=iH hnv;clear hnv;have HNL:Hid (NV.length=1*11):=by show _=_;rw [HNV.out];rfl
     have HNN:Hid (∀ j u,NV[j]?=some u→(w9.alloc (Obj.cells #[.string x.want.copy,.int .i64 x.want.version,.string x.want.hold,.int .i64 x.want.pull,.int .i64 x.want.start,.int .i64 x.want.dies,.int .i64 x.want.grace,.int .i64 2,.int .i64 0,.int .i64 x.falls,.int .i64 x.until_] 88)).cell? ((⟨w9.heap.size,0,none⟩:Addr).add j)=some u):=by
      intro j u hj;rw [Addr.add_mid];rw [HNV.out] at hj;exact (Blk.alloc w9 #[.string x.want.copy,.int .i64 x.want.version,.string x.want.hold,.int .i64 x.want.pull,.int .i64 x.want.start,.int .i64 x.want.dies,.int .i64 x.want.grace,.int .i64 2,.int .i64 0,.int .i64 x.falls,.int .i64 x.until_] 88).rangeA j u hj
     have HN1:Hid (∀ u∈NV,u.oneCell'=true):=by
      intro u hu;rw [HNV.out] at hu;exact Kc [({ x with state:=2,left:=0 }:Rn)] u (by simp only [rnV,List.append_nil];exact hu)
     have HOA:=iH (HO9.out.alloc (Obj.cells #[.string x.want.copy,.int .i64 x.want.version,.string x.want.hold,.int .i64 x.want.pull,.int .i64 x.want.start,.int .i64 x.want.dies,.int .i64 x.want.grace,.int .i64 2,.int .i64 0,.int .i64 x.falls,.int .i64 x.until_] 88));go_wp2_with (first | (refine qLk Bi HK9 ?_) | (at_builtin;refine wpList_append_own _ rfl _ _ 29 rfl w.heap.size 88 i0 _ 11 104 Tryz.underlying29 hi hz0 hz1 hz2 rfl (by decide) _ k _ rfl HOA ⟨w9.heap.size,0,none⟩ 1 1 NV rfl HNL HNN HN1 (by unfold maxLen;omega) (by omega) (by have:=hB9.size;simp;omega) ?_;intro v' w8 hown8 hgrow8 hnil8;have hv8:v'≠.slice none 0 0:=(fun e=>by have:=(hnil8.1 e).1;cases this);obtain ⟨g8,q8,rfl⟩:=Jk hown8 hv8));have HO8:Hid (w8.ownsRow w.heap.size 88 11 (.slice (some ⟨g8,0,none⟩) (k+1) q8) (k+1) (rnV ((xs.take (k+1)).map (wdR · c)))):=by
      show World.ownsRow _ _ _ _ _ _ _
      rw [List.take_add_one,HXX.out,List.map_append,Gh];rw [HNV.out] at hown8;simp only [Option.toList_some,List.map_cons,List.map_nil,rnV,List.append_nil];rw [HW.out];exact hown8
     have hB8:Below w.heap.size w w8:=(hB9.alloc hB9.size _).grown hgrow8 (by have:=hB9.size;simp;omega) (by intro j hj;cases hj;exact hgb);clear hown8 hgrow8 hnil8 hv8;go_wp2_with fail;go_roundw
     case rel=>exact ⟨k+1,g8,q8,by omega,by go_num,rfl,HO8,hB8⟩
     case measure=>simp [intOf];omega
  ·have hke:k=xs.length:=by omega
   subst hke;have HS:Hid (∀ x∈xs,x.want.copy.size≤maxLen∧x.want.hold.size≤maxLen):=by
    intro x hx;obtain ⟨j,hj,e⟩:=List.getElem_of_mem hx;obtain ⟨b,ob,_,_,_,hc⟩:=HI.out.at (by rw [gE hj,e]);obtain ⟨_,_,_,_,_,_,_,_,_,_,_,z0,z2⟩:=hc;exact ⟨z0,z2⟩
   have HSL:Hid (SliceC RnC 11 w.heap.size wr (some ⟨g,0,none⟩) (xs.map (wdR · c))):=by
    have h:=HO.out;rw [List.take_length] at h;have hl:(xs.map (wdR · c)).length=xs.length:=by simp
    rw [← hl] at h;refine Yy h (by rw [hl];exact HI.out.1) (Js h) (fun x hx=>?_);obtain ⟨y,hy,rfl⟩:=List.mem_map.1 hx;rw [Gb];exact HS.out y hy
   have hgl:g<wr.heap.size:=(HO.out.lt g rfl).2;clear HO;go_wp2_with fail;go_ret;exact ⟨g,q,rfl,HSL,hgl,hB⟩
end Go.Proofs.YtkiloaiffopllaaGreat
