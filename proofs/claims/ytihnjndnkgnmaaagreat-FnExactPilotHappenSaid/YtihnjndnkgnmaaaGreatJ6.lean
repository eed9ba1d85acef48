import Derived.Test.YtihnjndnkgnmaaaGreatShp
import Derived.Lib.Bytealg
import Derived.Laws.Externs
set_option maxHeartbeats 2000000
set_option maxRecDepth 100000
namespace Go.Proofs.YtihnjndnkgnmaaaGreat
open Go.RowKit
def ltN (a b:BA):Bool:=Op.bytesLess a.toList b.toList
def Nm {α:Type} (nm:α→BA) (s:BA):List α→List α
 | []=>[]
 | y::r=>if nm y=s then r else y::r
def Aq {α:Type} (nm:α→BA) (xs:List α) (a:α):List α:=xs.takeWhile (fun x=>ltN (nm x) (nm a))++a::Nm nm (nm a) (xs.dropWhile (fun x=>ltN (nm x) (nm a)))
theorem Kz {α:Type} {p:α→Bool}:∀ {xs:List α} {k:Nat},(∀ x∈xs.take k,p x=true)→(∀ y,xs[k]?=some y→p y=false)→xs.takeWhile p=xs.take k∧xs.dropWhile p=xs.drop k
 | [],k,_,_=>by simp
 | x::s,0,_,h2=>by
  have:=h2 x rfl;simp [this]
 | x::s,k+1,h1,h2=>by
  have hx:p x=true:=h1 x (by simp);obtain ⟨e1,e2⟩:=Kz (p:=p) (xs:=s) (k:=k) (fun y hy=>h1 y (by rw [List.take_succ_cons];exact List.mem_cons_of_mem _ hy)) (fun y hy=>h2 y (by simpa using hy));rw [List.takeWhile_cons,List.dropWhile_cons,if_pos hx,if_pos hx,e1,e2];exact ⟨rfl,rfl⟩
theorem Pg {α:Type} {nm:α→BA} {xs:List α} {a:α} (h1:∀ x∈xs.take xs.length,ltN (nm x) (nm a)=true):Aq nm xs a=xs.take xs.length++a::[]:=by
 obtain ⟨e1,e2⟩:=Kz (p:=fun x=>ltN (nm x) (nm a)) h1 (fun y hy=>by simp at hy);unfold Aq;rw [e1,e2,List.drop_length];rfl
theorem Jm {α:Type} {nm:α→BA} {xs:List α} {a y:α} {k:Nat} (h1:∀ x∈xs.take k,ltN (nm x) (nm a)=true) (hy:xs[k]?=some y) (hn:ltN (nm y) (nm a)=false) (he:nm y=nm a):Aq nm xs a=xs.take k++a::xs.drop (k+1):=by
 have hl:=Ae hy;have hg:xs[k]=y:=by rw [gE hl] at hy;exact Option.some.inj hy
 obtain ⟨e1,e2⟩:=Kz (p:=fun x=>ltN (nm x) (nm a)) h1 (fun z hz=>by rw [hy] at hz;cases hz;exact hn);unfold Aq;rw [e1,e2,List.drop_eq_getElem_cons hl,hg];rw [show Nm nm (nm a) (y::xs.drop (k+1))=xs.drop (k+1) from if_pos he]
theorem Onq {α:Type} {nm:α→BA} {xs:List α} {a y:α} {k:Nat} (h1:∀ x∈xs.take k,ltN (nm x) (nm a)=true) (hy:xs[k]?=some y) (hn:ltN (nm y) (nm a)=false) (he:nm y≠nm a):Aq nm xs a=xs.take k++a::xs.drop k:=by
 have hl:=Ae hy;have hg:xs[k]=y:=by rw [gE hl] at hy;exact Option.some.inj hy
 obtain ⟨e1,e2⟩:=Kz (p:=fun x=>ltN (nm x) (nm a)) h1 (fun z hz=>by rw [hy] at hz;cases hz;exact hn);unfold Aq;rw [e1,e2,List.drop_eq_getElem_cons hl,hg];rw [show Nm nm (nm a) (y::xs.drop (k+1))=y::xs.drop (k+1) from if_neg he]
theorem Sm {α:Type} (nm:α→BA) (s:BA) (xs:List α):(Nm nm s xs).Sublist xs:=by
 cases xs with
 | nil=>exact List.Sublist.refl _
 | cons y r =>
  by_cases he:nm y=s
  ·rw [show Nm nm s (y::r)=r from if_pos he]
   exact List.sublist_cons_self _ _
  ·rw [show Nm nm s (y::r)=y::r from if_neg he]
   exact List.Sublist.refl _
theorem Eh {α:Type} {nm:α→BA} {xs:List α} {a x:α} (h:x∈Aq nm xs a):x=a∨x∈xs:=by
 unfold Aq at h;rcases List.mem_append.1 h with h | h
 ·exact .inr ((List.takeWhile_sublist _).subset h)
 ·rcases List.mem_cons.1 h with h | h
  ·exact .inl h
  ·exact .inr (((Sm nm _ _).trans (List.dropWhile_sublist _)).subset h)
theorem Dn {α:Type} (nm:α→BA) (xs:List α) (a:α):(Aq nm xs a).length≤xs.length+1:=by
 unfold Aq;have h1:=(Sm nm (nm a) (xs.dropWhile (fun x=>ltN (nm x) (nm a)))).length_le;have h2:=congrArg List.length (List.takeWhile_append_dropWhile (p:=fun x=>ltN (nm x) (nm a)) (l:=xs));rw [List.length_append] at h2;rw [List.length_append,List.length_cons];omega
theorem Qr (a b:BA) (w:World) :
  Calls Tryz.prog 153 #[.string a,.string b] w fun e w'=>e=.returned (.int .i64 (Lib.compareBytes a.data.toList b.data.toList))∧w'=w:=by
 go_enter Tryz.func153,Tryz.ntmps153
 go_wp2
 rw [run_callFunc_extern Tryz.func162 (by kernel_rfl) (by kernel_rfl) (by kernel_rfl) (e:=Extern.BytealgCompare.compare) (by kernel_rfl),Lib.run_compareString];simp only [Result.andThen];rw [Oper.upon_value]
 go_wp2
 go_ret;exact ⟨rfl,rfl⟩
theorem Pu (a b:BA) (w:World) :
  Calls Tryz.prog 139 #[.string a,.string b] w fun e w'=>e=.returned (.int .i64 (Lib.compareBytes a.data.toList b.data.toList))∧w'=w:=by
 go_enter Tryz.func139,Tryz.ntmps139;go_wp2_with (go_at_call 153;refine (Qr _ _ _).mono ?_;rintro e w' ⟨rfl,rfl⟩);go_ret;exact ⟨rfl,rfl⟩
theorem Kl:∀ (a b:List UInt8),(Lib.compareBytes a b=-1∧Op.bytesLess a b=true∧Op.bytesLess b a=false∧a≠b)∨(Lib.compareBytes a b=0∧Op.bytesLess a b=false∧Op.bytesLess b a=false∧a=b)∨(Lib.compareBytes a b=1∧Op.bytesLess a b=false∧Op.bytesLess b a=true∧a≠b)
 | [],[]=>.inr (.inl ⟨rfl,rfl,rfl,rfl⟩)
 | [],_::_=>.inl ⟨rfl,rfl,rfl,by simp⟩
 | _::_,[]=>.inr (.inr ⟨rfl,rfl,rfl,by simp⟩)
 | x::a,y::b=>by
  by_cases h1:x<y
  ·have h2:¬ y<x:=fun h=>UInt8.lt_asymm h1 h
   have h3:¬ x=y:=fun e=>by subst e;exact UInt8.lt_irrefl _ h1
   have h4:¬ y=x:=fun e=>h3 e.symm
   exact .inl ⟨by simp [Lib.compareBytes,h1],by simp [Op.bytesLess,h1],by simp [Op.bytesLess,h2,h4],by simp [h3]⟩
  ·by_cases h2:y<x
   ·have h3:¬ x=y:=fun e=>by subst e;exact UInt8.lt_irrefl _ h2
    have h4:¬ y=x:=fun e=>h3 e.symm
    exact .inr (.inr ⟨by simp [Lib.compareBytes,h1,h2],by simp [Op.bytesLess,h1,h3],by simp [Op.bytesLess,h2],by simp [h3]⟩)
   ·have h3:x=y:=UInt8.le_antisymm (UInt8.not_lt.1 h2) (UInt8.not_lt.1 h1)
    subst h3;have hi:=UInt8.lt_irrefl x;rcases Kl a b with ⟨e1,e2,e3,e4⟩ | ⟨e1,e2,e3,e4⟩ | ⟨e1,e2,e3,e4⟩
    ·exact .inl ⟨by simp [Lib.compareBytes,e1],by simp [Op.bytesLess,e2],by simp [Op.bytesLess,e3],by simp [e4]⟩
    ·exact .inr (.inl ⟨by simp [Lib.compareBytes,e1],by simp [Op.bytesLess,e2],by simp [Op.bytesLess,e3],by simp [e4]⟩)
    ·exact .inr (.inr ⟨by simp [Lib.compareBytes,e1],by simp [Op.bytesLess,e2],by simp [Op.bytesLess,e3],by simp [e4]⟩)
theorem Nz (a b:BA):ltN a b=true↔Lib.compareBytes a.data.toList b.data.toList<0:=by
 unfold ltN;rw [ByteArray.toList_eq,ByteArray.toList_eq];rcases Kl a.data.toList b.data.toList with ⟨e1,e2,_,_⟩ | ⟨e1,e2,_,_⟩ | ⟨e1,e2,_,_⟩ <;> rw [e1,e2] <;> simp
theorem aL (a b:BA):a=b↔Lib.compareBytes a.data.toList b.data.toList=0:=by
 rcases Kl a.data.toList b.data.toList with ⟨e1,_,_,e2⟩ | ⟨e1,_,_,e2⟩ | ⟨e1,_,_,e2⟩
 ·rw [e1]
  exact ⟨fun h=>absurd (by rw [h]) e2,fun h=>by cases h⟩
 ·rw [e1]
  exact ⟨fun _=>rfl,fun _=>ByteArray.ext (Array.toList_inj.1 e2)⟩
 ·rw [e1]
  exact ⟨fun h=>absurd (by rw [h]) e2,fun h=>by cases h⟩
theorem fI {α:Type} {nm:α→BA} {xs:List α} {a:α} {i:Nat} {q:Bool} (hi:i≤xs.length) (h1:∀ (j:Nat) u,j<i→xs[j]?=some u→Lib.compareBytes (nm u).data.toList (nm a).data.toList<0) (h2:∀ (j:Nat) u,i≤j→xs[j]?=some u→0≤Lib.compareBytes (nm u).data.toList (nm a).data.toList)
  (hq:q=true↔∃ y,xs[i]?=some y∧nm y=nm a):Aq nm xs a=xs.take i++a::xs.drop (if q=true then i+1 else i):=by
 have hl:∀ x∈xs.take i,ltN (nm x) (nm a)=true:=by
  intro x hx;obtain ⟨j,hj⟩:=List.getElem?_of_mem hx;have hji:j<i:=by have h9:=Ae hj;rw [List.length_take] at h9;omega
  rw [List.getElem?_take_of_lt hji] at hj;exact (Nz _ _).2 (h1 j x hji hj)
 by_cases hil:i<xs.length
 ·have hy:xs[i]?=some xs[i]:=gE hil
  have hn:ltN (nm xs[i]) (nm a)=false:=by
   rw [Bool.eq_false_iff];intro h9;have h8:=(Nz _ _).1 h9;have h7:=h2 i _ nL hy;omega
  by_cases he:nm xs[i]=nm a
  ·have:q=true:=hq.2 ⟨_,hy,he⟩
   rw [if_pos this];exact Jm hl hy hn he
  ·have:¬ q=true:=fun h=>by
    obtain ⟨y,h9,h8⟩:=hq.1 h;rw [hy] at h9;cases h9
    exact he h8
   rw [if_neg this];exact Onq hl hy hn he
 ·have hie:i=xs.length:=by omega
  subst hie;have:¬ q=true:=fun h=>by
   obtain ⟨y,h9,h8⟩:=hq.1 h;simp at h9
  rw [if_neg this,List.drop_length];exact Pg hl
structure Svc where
 name:BA
 spare:Int
def Cq (x:Svc):Nat:=x.name.size
def SvcC:Db Svc:=fun _ _ f x=>f 0=some (.string x.name)∧f 1=some (.int .i64 x.spare)∧x.name.size≤maxLen
theorem SvcC.holds:Dy SvcC 2:=by
 rintro lo lo' w w' f g x h _ _ ⟨q0,q1,z0⟩;exact ⟨(h 0 (by omega)).trans q0,(h 1 (by omega)).trans q1,z0⟩
theorem dA (x:Svc)  (L:Int) (w:World) (z0:x.name.size≤maxLen)  (h0:0≤L) (h1:L≤1048576) :
  Calls Tryz.prog 44 #[.agg #[.string x.name,.int .i64 x.spare],.int .i64 L] w (Rt (.int .i64 (szR (Cq x) L)) w):=by
 unfold maxLen at z0;have HW:Hid (Cq x=x.name.size):=rfl;generalize Cq x=W at *;by_cases d0:L - (x.name.size:Nat)<0
 ·go_enter Tryz.func44,Tryz.ntmps44
  go_wp2_with fail;go_ret;exact ⟨Atq (by have:=HW.out;unfold szR;rw [if_neg (by omega)]),by go_grown⟩
 ·skip
  go_enter Tryz.func44,Tryz.ntmps44;go_wp2_with fail;go_ret;exact ⟨Atq (by have:=HW.out;unfold szR;rw [if_pos (by omega)];omega),by go_grown⟩
theorem Ff:(Tryz.prog.info? 94).map (·.size)=some 2:=by kernel_rfl
theorem Ofq:Ls 94 2:=⟨_,Tryz.underlying94,rfl,Ff⟩
theorem aZ (x:Svc) (w:World) :
  Calls Tryz.prog 58 #[.agg #[.string x.name,.int .i64 x.spare]] w (Rt (.agg #[.string x.name,.int .i64 x.spare]) w):=by
 go_enter Tryz.func58,Tryz.ntmps58
 go_wp2
 go_returns
 exact ⟨rfl,by go_grown⟩
theorem bC (x:Svc) (w:World) :
  Calls Tryz.prog 72 #[.agg #[.string x.name,.int .i64 x.spare],.agg #[.string x.name,.int .i64 x.spare]] w (Rt (.bool true) w):=by
 go_enter Tryz.func72,Tryz.ntmps72
 go_wp2
 go_ret;exact ⟨rfl,by go_grown⟩
theorem Yw (xs:List Svc) (a:OA) (cap lo:Nat) (L:Int) (w:World) (hin:SliceC SvcC 2 lo w a xs) (h0:0≤L) (h1:L≤1048576) :
  Calls Tryz.prog 16 #[.slice a xs.length cap,.int .i64 L] w (Rt (.int .i64 (szR (wS Cq xs) L)) w):=by
 have hlen:=hin.1;unfold maxLen at hlen;have HI:=iH hin;clear hin;have HW:Hid (wS Cq xs=xs.length+(xs.map Cq).sum):=rfl;generalize wS Cq xs=W at *;by_cases c1:L - xs.length<0
 ·go_enter Tryz.func16,Tryz.ntmps16
  go_wp2_with fail;go_ret;exact ⟨Atq (by have:=HW.out;unfold szR;rw [if_neg (by omega)]),Below.refl _ _⟩
 ·go_enter Tryz.func16,Tryz.ntmps16
  go_wp2_with fail;go_loopw [1,5] (fun l i wr=>∃ (k:Nat) (M:Int),k≤xs.length∧i=.int .i64 k∧l=.int .i64 M∧0≤M∧M≤1048576∧Hid (M=L - xs.length - ((xs.take k).map Cq).sum)∧Below w.heap.size w wr) (fun _ i _=>xs.length - (intOf i).toNat)
  case atStart=>exact ⟨0,_,zL,rfl,rfl,by omega,by omega,by show _=_;simp,Below.refl _ _⟩
  case round =>
   obtain ⟨k,M,hk,rfl,rfl,hM0,hM1,hM,hbel⟩:=hrel;by_cases hlt:k<xs.length
   ·obtain ⟨x,hx⟩:=gX hlt
    obtain ⟨b,o,rfl,_,_,hc⟩:=(HI.out.below SvcC.holds hbel nL).at hx;obtain ⟨q0,q1,z0⟩:=hc;simp only [Nat.add_zero] at q0 q1;have HX:Hid (((xs.take (k+1)).map Cq).sum=((xs.take k).map Cq).sum+Cq x):=Dm _ _ _ _ hx;have HY:Hid (((xs.take (k+1)).map Cq).sum≤(xs.map Cq).sum):=Co _ _ _;have CT:=dA x M wr z0 hM0 hM1;have HCT:=iH CT;clear hx CT;by_cases hr:(Cq x:Int)≤M
    ·rw [Ea hr] at HCT
     generalize hV:Cq x=V at *;clear hV;go_wp2_with fail;refine HCT.out.mono ?_;rintro e w1 ⟨rfl,hb1⟩;clear HCT;go_wp2_with fail;go_roundw
     case rel =>
      refine ⟨k+1,M - V,by omega,by go_num,rfl,by omega,by omega,?_,qt hbel hb1⟩;have:=hM.out;have:=HX.out;show _=_
      omega
     case measure=>simp [intOf];omega
    ·rw [Eb hr] at HCT
     generalize hV:Cq x=V at *;clear hV;go_wp2_with fail;refine HCT.out.mono ?_;rintro e w1 ⟨rfl,hb1⟩;clear HCT;go_wp2_with fail;go_ret;refine ⟨Atq ?_,qt hbel hb1⟩;have:=HW.out;have:=HX.out;have:=HY.out;have:=hM.out;unfold szR;rw [if_neg (by omega)]
   ·go_wp2_with fail
    go_ret;refine ⟨Atq ?_,hbel⟩;have hke:k=xs.length:=by omega
    subst hke;have h3:=hM.out;have h4:=HW.out;simp only [List.take_length] at h3;unfold szR;rw [if_pos (by omega)];omega
theorem Pw:(Tryz.prog.info? 94).map (fun i=>(i.zero,i.size,i.bytes))=some (some (.agg #[.string ⟨#[]⟩,.int .i64 0]),2,24):=by kernel_rfl
theorem Zh (xs:List Svc) (a:OA) (cap lo:Nat) (w:World) (hin:SliceC SvcC 2 lo w a xs) (hsm:wS Cq xs≤1048576) :
  Calls Tryz.prog 24 #[.slice a xs.length cap] w fun e w'=>∃ g,e=.returned (.slice (some ⟨g,0,none⟩) xs.length xs.length)∧w.heap.size≤g∧SliceC SvcC 2 w.heap.size w' (some ⟨g,0,none⟩) xs∧Below w.heap.size w w':=by
 obtain ⟨i0,hi,hz0,hz1,hz2⟩:=info_parts Pw;have hlen:xs.length≤1048576:=lT Dq hsm;have HI:=iH hin;have HSM:=iH hsm;clear hin hsm;go_enter Tryz.func24,Tryz.ntmps24;go_wp2_with (at_make;refine wpList_make_full _ rfl _ _ 38 rfl w.heap.size 94 i0 _ 2 Tryz.underlying38 hi hz0 hz1 .i64 .i64 _ _ xs.length rfl rfl rfl rfl (by rw [hz2];omega) (by unfold maxLen;omega) nL ?_;intro w1 hown hgrow);have hb1:Below w.heap.size w w1:=(Below.refl _ _).grown hgrow nL (fun k h=>by cases h);have hsz1:=(hown.lt w.heap.size rfl).2;generalize hX:(madeCells _ (xs.length*2)).toList=xs0 at hown;clear hX hgrow hi hz0 hz1 hz2;go_loopw [4] (fun i wr=>∃ (k:Nat) (cs:List Value),k≤xs.length∧i=.int .i64 k∧w.heap.size<wr.heap.size∧wr.ownsRow w.heap.size 94 2 (.slice (some ⟨w.heap.size,0,none⟩) xs.length xs.length) xs.length cs∧RowC SvcC 2 (w.heap.size+1) wr cs xs k∧Below w.heap.size w wr) (fun i _=>xs.length - (intOf i).toNat)
 case atStart=>exact ⟨0,xs0,zL,rfl,hsz1,hown,fun j n h=>by omega,hb1⟩
 case round =>
  clear hown hb1 hsz1;obtain ⟨k,cs,hk,rfl,hszr,hown,hfil,hbel⟩:=hrel;by_cases hlt:k<xs.length
  ·obtain ⟨x,hx⟩:=gX hlt
   obtain ⟨b,o,rfl,_,_,hc⟩:=(HI.out.below SvcC.holds hbel nL).at hx;obtain ⟨q0,q1,z0⟩:=hc;simp only [Nat.add_zero] at q0 q1;have HN:=iH hx;have hwx:Cq x≤1048576:=lT (Ko (List.mem_of_getElem? hx)) HSM;have HO:=iH hown;have HF:=iH hfil;have HS:=iH hszr;have CT:=aZ x wr;have HCT:=iH CT;clear hx hown hfil CT hszr;go_wp2_with fail;refine HCT.out.mono ?_;rintro e w2 ⟨rfl,hb2⟩;clear HCT q0 q1;have ho2:=Al HO hb2;have HB2:=iH (qt hbel hb2);have HF2:Hid (RowC SvcC 2 (w.heap.size+1) w2 cs xs k):=HF.out.keep SvcC.holds (Keeps.of_below hb2 nL _);have hs2:Hid (w.heap.size<w2.heap.size):=lL HS hb2.size;have HR:Hid (SvcC (w.heap.size+1) w2 (fun i=>([.string x.name,.int .i64 x.spare]:List Value)[i]?) x):=⟨rfl,rfl,z0⟩;have hxl:cs.length=xs.length*2:=ho2.1;have HT:Hid (w2.there w.heap.size (k*2) 2):=Ck ho2 (by omega);have HL:=iH hxl;have HO2:=iH ho2;clear hxl ho2 HO hb2 hwx;obtain ⟨w3,hw3⟩:∃ w',w'=w2.setCells w.heap.size (k*2) [.string x.name,.int .i64 x.spare]:=⟨_,rfl⟩;have HW3:=iH hw3;have HS3:Hid (w.heap.size<w3.heap.size):=by rw [hw3,Bf];exact hs2
   have HO3:Hid (w3.ownsRow w.heap.size 94 2 (.slice (some ⟨w.heap.size,0,none⟩) xs.length xs.length) xs.length (Bu cs (k*2) [.string x.name,.int .i64 x.spare])):=by rw [hw3];exact Cl _ _ _ _ HO2
   have HB3:Hid (Below w.heap.size w w3):=by rw [hw3];exact Ac nL _ _ _ HB2
   have HR3:Hid (RowC SvcC 2 (w.heap.size+1) w3 (Bu cs (k*2) [.string x.name,.int .i64 x.spare]) xs (k+1)):=by
    rw [hw3];exact (HF2.out.step (vs:=[.string x.name,.int .i64 x.spare]) SvcC.holds HN rfl (by have:=HL.out;omega) HR).keep SvcC.holds (Keeps.setCells (by omega) _ _ _)
   clear hw3 HB2 HF2 hs2 HR HL HO2;go_wp2_with (refine Ad rfl 94 _ _ rfl w.heap.size (k*2) #[.string x.name,.int .i64 x.spare] (by first | rfl | (simp [go_sem];done)) rfl HT Ff (by simp [Value.oneCell']) w3 HW3 ?_);go_roundw
   case rel=>exact ⟨k+1,_,by omega,by go_num,HS3,HO3,HR3,HB3⟩
   case measure=>simp [intOf];omega
  ·have HO:=iH hown
   have HF:=iH hfil;clear hown hfil;go_wp2_with fail;go_ret;have hke:k=xs.length:=by omega
   subst hke;exact ⟨_,rfl,Nat.le_refl _,Ej HO HF SvcC.holds HI.out.1 (by omega) nL,hbel⟩
theorem Xz (xs:List Svc) (a a':OA) (cap cap' lo lo':Nat) (w:World) (hg:SliceC SvcC 2 lo w a xs) (hh:SliceC SvcC 2 lo' w a' xs) (hsm:wS Cq xs≤1048576) :
  Calls Tryz.prog 32 #[.slice a xs.length cap,.slice a' xs.length cap'] w (Rt (.bool true) w):=by
 have hlen:xs.length≤1048576:=lT Dq hsm;have HG:=iH hg;have HH:=iH hh;clear hg hh hsm;go_enter Tryz.func32,Tryz.ntmps32;go_wp2_with fail;go_loopw [5] (fun i wr=>∃ (k:Nat),k≤xs.length∧i=.int .i64 k∧Below w.heap.size w wr) (fun i _=>xs.length - (intOf i).toNat)
 case atStart=>exact ⟨0,zL,rfl,Below.refl _ _⟩
 case round =>
  obtain ⟨k,hk,rfl,hbel⟩:=hrel;by_cases hlt:k<xs.length
  ·obtain ⟨x,hx⟩:=gX hlt
   obtain ⟨b,o,rfl,_,_,hc⟩:=(HG.out.below SvcC.holds hbel nL).at hx;obtain ⟨b',o',rfl,_,_,hc'⟩:=(HH.out.below SvcC.holds hbel nL).at hx;obtain ⟨q0,q1,_⟩:=hc;obtain ⟨r0,r1,_⟩:=hc';simp only [Nat.add_zero] at q0 q1 r0 r1;have k0:=cell_regrown q0;have l0:=cell_regrown r0;have k1:=cell_regrown q1;have l1:=cell_regrown r1;have cE:∀ d os,Calls Tryz.prog 72 #[.agg #[.string x.name,.int .i64 x.spare],.agg #[.string x.name,.int .i64 x.spare]] (Sort.grow (redrawn wr d) os) fun e w''=>e=.returned (.bool true)∧∃ p:Regrown,w''=Sort.grow (redrawn wr p.d) p.os:=fun d os=>Calls.regrown_of (bC x _)
   have i0:(0:Int)≤(k:Int):=by omega
   have i1:(k:Int)<(xs.length:Int):=by omega
   clear hx q0 q1 r0 r1;go_wp2_with fail;refine wp_region_quiet_below (by kernel_rfl) (by kernel_rfl) ?_
   repeat (quiet_step (first | exact cE _ _))
   refine wpQuiet_nil ?_;intro _ hw';obtain ⟨⟨dq,osq⟩,hw''⟩:=hw';have hB:=hbel.trans ((below_regrown wr dq osq).mono hbel.size);simp only [] at hw'';rw [← hw''] at hB;clear hw'' cE k0 l0 k1 l1;go_wp2_with fail;go_roundw
   case rel=>exact ⟨k+1,by omega,by go_num,hB⟩
   case measure=>simp [intOf];omega
  ·go_wp2_with fail
   go_ret;exact ⟨rfl,hbel⟩
end Go.Proofs.YtihnjndnkgnmaaaGreat
