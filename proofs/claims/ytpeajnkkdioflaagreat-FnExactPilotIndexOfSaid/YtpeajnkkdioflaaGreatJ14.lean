import Derived.Test.YtpeajnkkdioflaaGreatFlt
import Derived.Maps.Own
import Derived.Maps.OwnSet
import Derived.Maps.Views
set_option maxHeartbeats 2000000
set_option maxRecDepth 100000
namespace Go.Proofs.YtpeajnkkdioflaaGreat
open Go.RowKit Go.WideMaps Go.Maps
theorem Cx:Keyed Tryz.prog 9:=string_keyed Tryz.underlying9
theorem Gk (w:World):(zeroValue 3).run Tryz.prog w=.ok (.int .i64 0) w:=by kernel_rfl
theorem Fm {P:Program} {t k e:TypeId} (hu:P.underlying t=some (.map k e)) (q:IntKind) (n:Int) (w:World):(Instr.makeMap t (some (.int q n))).run P w=.ok (.map (some w.heap.size)) (w.alloc (.map #[] 0)):=by
 simp [Instr.makeMap,run_underlying hu,asInt,asIntOf,Result.andThen]
theorem Ak {H:Type} {P:Program} {k:TypeId} {R:Value→Option (DataW H×List MemPlace)} {b n:Nat} {D:DataW H} {w w':World} {B:Nat} (h:w.ownsMap P k R b n D) (hb:Below B w w') (hB:b<B):w'.ownsMap P k R b n D:=by
 obtain ⟨es,clock,h1,h2,h3,h4⟩:=h;exact ⟨es,clock,(hb.block b hB).trans h1,h2,h3,h4⟩
def kOf (s:ByteArray):Lit:=.string s.data.toList
def Af (ns:List ByteArray):Nat→DataW Unit
 | 0=>.map []
 | k+1=>match ns[k]? with
  | some s=>(Af ns k).put (kOf s) (.lit (.int .i64 k))
  | none=>Af ns k
theorem Es (ns:List ByteArray):∀ k,IsMap (Af ns k)
 | 0=>⟨_,rfl⟩
 | k+1=>by
  unfold Af
  split
  ·exact IsMap.put (Es ns k) _ _
  ·exact Es ns k
theorem La {s t:ByteArray} (h:kOf s=kOf t):s=t:=by
 unfold kOf at h;injection h with h
 cases s with | mk a=>cases t with | mk b=>simp at h;simp [h]
def Ba (ns:List ByteArray) (s:ByteArray):Nat→Option Nat
 | 0=>none
 | k+1=>if ns[k]?=some s then some k else Ba ns s k
theorem Jz (ns:List ByteArray) (s:ByteArray):∀ k,has (Af ns k) (kOf s)=(Ba ns s k).isSome
 | 0=>rfl
 | k+1=>by
  unfold Af Ba
  cases hk:ns[k]? with
  | none=>simp;exact Jz ns s k
  | some t =>
   by_cases e:t=s
   ·subst e
    simp;exact has_put_same (Es ns k) (show WideAt.IsKeyLit (kOf _) from trivial) _
   ·simp [e]
    rw [has_put_other (fun h=>e (La h).symm)];exact Jz ns s k
theorem Mj (ns:List ByteArray) (s:ByteArray):∀ k,(Af ns k).atKey (kOf s) (.lit (.int .i64 0))=.lit (.int .i64 (((Ba ns s k).getD 0:Nat):Int))
 | 0=>rfl
 | k+1=>by
  unfold Af Ba
  cases hk:ns[k]? with
  | none=>simp;exact Mj ns s k
  | some t =>
   by_cases e:t=s
   ·subst e
    simp;exact atKey_put_same (Es ns k) (show WideAt.IsKeyLit (kOf _) from trivial) _ _
   ·simp [e]
    rw [atKey_put_other (fun h=>e (La h).symm)];exact Mj ns s k
theorem Em (x:Brt) (a2:Option Addr) (c2:Nat) (w:World) :
  Calls Tryz.prog 99 #[.agg #[.string x.name,.string x.zone,.slice a2 x.marks.length c2,.int .i64 x.room,.int .i64 x.hold,.bool x.closed]] w fun e w'=>e=.returned (.string x.name)∧Below w.heap.size w w':=by
 go_enter Tryz.func99,Tryz.ntmps99
 go_wp2
 go_ret;exact ⟨rfl,by go_grown⟩
theorem Qd (xs:List Brt) (a:Option Addr) (cap lo:Nat) (w:World) (hin:SliceC BrtC 6 lo w a xs) (hsm:xs.length≤1048576) :
  Calls Tryz.prog 98 #[.slice a xs.length cap,.func (.func 99) #[] #[]] w fun e w'=>e=.returned (.map (some w.heap.size))∧w'.ownsMap Tryz.prog 9 (plainElem Tryz.prog 3) w.heap.size xs.length (Af (xs.map (·.name)) xs.length)∧Below w.heap.size w w':=by
 have hmm:∀ q n w,(Instr.makeMap 160 (some (.int q n))).run Tryz.prog w=.ok (.map (some w.heap.size)) (w.alloc (.map #[] 0)):=fun q n w=>Fm Tryz.underlying160 q n w
 have HI:Hid (SliceC BrtC 6 lo w a xs):=hin;clear hin;go_enter Tryz.func98,Tryz.ntmps98;go_wp2_with fail;go_loopw [13] (fun i wr=>∃ k:Nat,k≤xs.length∧i=.int .i64 k∧wr.ownsMap Tryz.prog 9 (plainElem Tryz.prog 3) w.heap.size k (Af (xs.map (·.name)) k)∧Below w.heap.size w wr)
  (fun i _=>xs.length - (intOf i).toNat)
 case atStart=>exact ⟨0,Nat.zero_le _,rfl,World.ownsMap_made _ _ _ _,(Below.refl _ _).alloc nL _⟩
 case round =>
  obtain ⟨k,hk,rfl,hown,hbel⟩:=hrel;by_cases hlt:k<xs.length
  ·obtain ⟨x,hx⟩:∃ x,xs[k]?=some x:=⟨xs[k],List.getElem?_eq_getElem hlt⟩
   obtain ⟨b,o,rfl,_,_,hc⟩:=(HI.out.below BrtC.holds hbel nL).at hx;obtain ⟨a2,c2,q0,q1,q2,q3,q4,q5,z0,_,_⟩:=hc;simp only [Nat.add_zero] at q0 q1 q2 q3 q4 q5;have HP:Hid (Af (xs.map (·.name)) (k+1)=(Af (xs.map (·.name)) k).put (kOf x.name) (.lit (.int .i64 k))):=by
    show _=_
    simp [Af,hx]
   have hkey:keyOf Tryz.prog 9 (.string x.name)=some (kOf x.name):=keyOf_string_mk Tryz.underlying9 z0;have HO:Hid (wr.ownsMap Tryz.prog 9 (plainElem Tryz.prog 3) w.heap.size k (Af (xs.map (·.name)) k)):=hown;have HB:Hid (Below w.heap.size w wr):=hbel;have hws:w.heap.size<wr.heap.size:=hown.lt;have HRA:Hid (wr.rangeAt b (o+k*6) [.string x.name,.string x.zone,.slice a2 x.marks.length c2,.int .i64 x.room,.int .i64 x.hold,.bool x.closed]):=Aa q0 (Aa q1 (Aa q2 (Aa q3 (Aa q4 (Aa q5 (Aj _ _ _))))));clear hx hown hbel q0 q1 q2 q3 q4 q5;generalize Af (xs.map (·.name)) k=D at *;go_upto_region 5 with (first | (refine wpList_load_mid rfl 86 _ rfl b (o+k*6) (by first | rfl | (simp [go_sem];done)) [.string x.name,.string x.zone,.slice a2 x.marks.length c2,.int .i64 x.room,.int .i64 x.hold,.bool x.closed] _ HRA.out Tryz.underlying86 rfl Bn ?_));have HR4:Hid ((wr.alloc (Obj.cells #[.string x.name,.string x.zone,.slice a2 x.marks.length c2,.int .i64 x.room,.int .i64 x.hold,.bool x.closed] 86)).rangeAt wr.heap.size 0 [.string x.name,.string x.zone,.slice a2 x.marks.length c2,.int .i64 x.room,.int .i64 x.hold,.bool x.closed]):=Aa (by simp) (Aa (by simp) (Aa (by simp) (Aa (by simp) (Aa (by simp) (Aa (by simp) (Aj _ _ _))))));have HO4:Hid ((wr.alloc (Obj.cells #[.string x.name,.string x.zone,.slice a2 x.marks.length c2,.int .i64 x.room,.int .i64 x.hold,.bool x.closed] 86)).ownsMap Tryz.prog 9 (plainElem Tryz.prog 3) w.heap.size k D):=HO.out.alloc _;have HB4:Hid (Below w.heap.size w (wr.alloc (Obj.cells #[.string x.name,.string x.zone,.slice a2 x.marks.length c2,.int .i64 x.room,.int .i64 x.hold,.bool x.closed] 86))):=HB.out.alloc (by omega) _;generalize wr.alloc (Obj.cells #[.string x.name,.string x.zone,.slice a2 x.marks.length c2,.int .i64 x.room,.int .i64 x.hold,.bool x.closed] 86)=w4 at *;go_wp2_with (first | (refine wpList_load_mid rfl 86 _ rfl wr.heap.size 0 rfl [.string x.name,.string x.zone,.slice a2 x.marks.length c2,.int .i64 x.room,.int .i64 x.hold,.bool x.closed] _ HR4.out Tryz.underlying86 rfl Bn ?_));refine (Em x a2 c2 _).mono ?_;rintro e w5 ⟨rfl,hb5⟩;have HO5:Hid (w5.ownsMap Tryz.prog 9 (plainElem Tryz.prog 3) w.heap.size k D):=Ak HO4.out hb5 HO4.out.lt;have HB5:Hid (Below w.heap.size w w5):=HB4.out.trans (hb5.mono HB4.out.size);clear hb5 HO4 HB4 HR4;go_wp2_with (at_mapUpdate;refine wpList_mapUpdate_own _ rfl _ _ _ 160 rfl 9 3 Cx Tryz.underlying160 _ w.heap.size k _ rfl HO5.out (by unfold maxLen;omega) _ _ _ rfl rfl hkey _ [] (plainElem_int Tryz.underlying3 (WalkArith.wf_i64 (by omega))) ?_;intro w6 hown6 hgrow6);have R1:=HP.out.symm▸hown6;have R2:=HB5.out.grown hgrow6 HB5.out.size (fun j hj=>by cases hj;exact Nat.le_refl _);have HR1:Hid (w6.ownsMap Tryz.prog 9 (plainElem Tryz.prog 3) w.heap.size (k+1) (Af (xs.map (·.name)) (k+1))):=R1;clear hown6 hgrow6 R1 hkey;go_wp2_with fail;go_roundw
   case rel=>exact ⟨k+1,by omega,by go_num,HR1.out,R2⟩
   case measure=>simp [intOf];omega
  ·have HO:Hid (wr.ownsMap Tryz.prog 9 (plainElem Tryz.prog 3) w.heap.size k (Af (xs.map (·.name)) k)):=hown
   clear hown;go_wp2_with fail;go_ret;have hke:k=xs.length:=by omega
   subst hke;exact ⟨rfl,HO.out,hbel⟩
theorem Eg (x:Svc)  (w:World) :
  Calls Tryz.prog 101 #[.agg #[.string x.name,.int .i64 x.spare]] w fun e w'=>e=.returned (.string x.name)∧Below w.heap.size w w':=by
 go_enter Tryz.func101,Tryz.ntmps101
 go_wp2
 go_ret;exact ⟨rfl,by go_grown⟩
theorem Pz (xs:List Svc) (a:Option Addr) (cap lo:Nat) (w:World) (hin:SliceC SvcC 2 lo w a xs) (hsm:xs.length≤1048576) :
  Calls Tryz.prog 100 #[.slice a xs.length cap,.func (.func 101) #[] #[]] w fun e w'=>e=.returned (.map (some w.heap.size))∧w'.ownsMap Tryz.prog 9 (plainElem Tryz.prog 3) w.heap.size xs.length (Af (xs.map (·.name)) xs.length)∧Below w.heap.size w w':=by
 have hmm:∀ q n w,(Instr.makeMap 160 (some (.int q n))).run Tryz.prog w=.ok (.map (some w.heap.size)) (w.alloc (.map #[] 0)):=fun q n w=>Fm Tryz.underlying160 q n w
 have HI:Hid (SliceC SvcC 2 lo w a xs):=hin;clear hin;go_enter Tryz.func100,Tryz.ntmps100;go_wp2_with fail;go_loopw [13] (fun i wr=>∃ k:Nat,k≤xs.length∧i=.int .i64 k∧wr.ownsMap Tryz.prog 9 (plainElem Tryz.prog 3) w.heap.size k (Af (xs.map (·.name)) k)∧Below w.heap.size w wr)
  (fun i _=>xs.length - (intOf i).toNat)
 case atStart=>exact ⟨0,Nat.zero_le _,rfl,World.ownsMap_made _ _ _ _,(Below.refl _ _).alloc nL _⟩
 case round =>
  obtain ⟨k,hk,rfl,hown,hbel⟩:=hrel;by_cases hlt:k<xs.length
  ·obtain ⟨x,hx⟩:∃ x,xs[k]?=some x:=⟨xs[k],List.getElem?_eq_getElem hlt⟩
   obtain ⟨b,o,rfl,_,_,hc⟩:=(HI.out.below SvcC.holds hbel nL).at hx;obtain ⟨q0,q1,z0⟩:=hc;simp only [Nat.add_zero] at q0 q1;have HP:Hid (Af (xs.map (·.name)) (k+1)=(Af (xs.map (·.name)) k).put (kOf x.name) (.lit (.int .i64 k))):=by
    show _=_
    simp [Af,hx]
   have hkey:keyOf Tryz.prog 9 (.string x.name)=some (kOf x.name):=keyOf_string_mk Tryz.underlying9 z0;have HO:Hid (wr.ownsMap Tryz.prog 9 (plainElem Tryz.prog 3) w.heap.size k (Af (xs.map (·.name)) k)):=hown;have HB:Hid (Below w.heap.size w wr):=hbel;have hws:w.heap.size<wr.heap.size:=hown.lt;have HRA:Hid (wr.rangeAt b (o+k*2) [.string x.name,.int .i64 x.spare]):=Aa q0 (Aa q1 (Aj _ _ _));clear hx hown hbel q0 q1;generalize Af (xs.map (·.name)) k=D at *;go_upto_region 5 with (first | (refine wpList_load_mid rfl 78 _ rfl b (o+k*2) (by first | rfl | (simp [go_sem];done)) [.string x.name,.int .i64 x.spare] _ HRA.out Tryz.underlying78 rfl Ff ?_));have HR4:Hid ((wr.alloc (Obj.cells #[.string x.name,.int .i64 x.spare] 78)).rangeAt wr.heap.size 0 [.string x.name,.int .i64 x.spare]):=Aa (by simp) (Aa (by simp) (Aj _ _ _));have HO4:Hid ((wr.alloc (Obj.cells #[.string x.name,.int .i64 x.spare] 78)).ownsMap Tryz.prog 9 (plainElem Tryz.prog 3) w.heap.size k D):=HO.out.alloc _;have HB4:Hid (Below w.heap.size w (wr.alloc (Obj.cells #[.string x.name,.int .i64 x.spare] 78))):=HB.out.alloc (by omega) _;generalize wr.alloc (Obj.cells #[.string x.name,.int .i64 x.spare] 78)=w4 at *;go_wp2_with (first | (refine wpList_load_mid rfl 78 _ rfl wr.heap.size 0 rfl [.string x.name,.int .i64 x.spare] _ HR4.out Tryz.underlying78 rfl Ff ?_));refine (Eg x  _).mono ?_;rintro e w5 ⟨rfl,hb5⟩;have HO5:Hid (w5.ownsMap Tryz.prog 9 (plainElem Tryz.prog 3) w.heap.size k D):=Ak HO4.out hb5 HO4.out.lt;have HB5:Hid (Below w.heap.size w w5):=HB4.out.trans (hb5.mono HB4.out.size);clear hb5 HO4 HB4 HR4;go_wp2_with (at_mapUpdate;refine wpList_mapUpdate_own _ rfl _ _ _ 160 rfl 9 3 Cx Tryz.underlying160 _ w.heap.size k _ rfl HO5.out (by unfold maxLen;omega) _ _ _ rfl rfl hkey _ [] (plainElem_int Tryz.underlying3 (WalkArith.wf_i64 (by omega))) ?_;intro w6 hown6 hgrow6);have R1:=HP.out.symm▸hown6;have R2:=HB5.out.grown hgrow6 HB5.out.size (fun j hj=>by cases hj;exact Nat.le_refl _);have HR1:Hid (w6.ownsMap Tryz.prog 9 (plainElem Tryz.prog 3) w.heap.size (k+1) (Af (xs.map (·.name)) (k+1))):=R1;clear hown6 hgrow6 R1 hkey;go_wp2_with fail;go_roundw
   case rel=>exact ⟨k+1,by omega,by go_num,HR1.out,R2⟩
   case measure=>simp [intOf];omega
  ·have HO:Hid (wr.ownsMap Tryz.prog 9 (plainElem Tryz.prog 3) w.heap.size k (Af (xs.map (·.name)) k)):=hown
   clear hown;go_wp2_with fail;go_ret;have hke:k=xs.length:=by omega
   subst hke;exact ⟨rfl,HO.out,hbel⟩
theorem En (x:Cpy) (a7:Option Addr) (c7:Nat) (w:World) :
  Calls Tryz.prog 103 #[.agg #[.string x.name,.string x.service,.int .i64 x.rank,.int .i64 x.born,.int .i64 x.room,.int .i64 x.hold,.string x.select,.slice a7 x.likes.length c7,.int .i64 x.apart,.string x.near,.string x.fixed,.string x.at_]] w fun e w'=>e=.returned (.string x.name)∧Below w.heap.size w w':=by
 go_enter Tryz.func103,Tryz.ntmps103
 go_wp2
 go_ret;exact ⟨rfl,by go_grown⟩
theorem Pu (xs:List Cpy) (a:Option Addr) (cap lo:Nat) (w:World) (hin:SliceC CpyC 12 lo w a xs) (hsm:xs.length≤1048576) :
  Calls Tryz.prog 102 #[.slice a xs.length cap,.func (.func 103) #[] #[]] w fun e w'=>e=.returned (.map (some w.heap.size))∧w'.ownsMap Tryz.prog 9 (plainElem Tryz.prog 3) w.heap.size xs.length (Af (xs.map (·.name)) xs.length)∧Below w.heap.size w w':=by
 have hmm:∀ q n w,(Instr.makeMap 160 (some (.int q n))).run Tryz.prog w=.ok (.map (some w.heap.size)) (w.alloc (.map #[] 0)):=fun q n w=>Fm Tryz.underlying160 q n w
 have HI:Hid (SliceC CpyC 12 lo w a xs):=hin;clear hin;go_enter Tryz.func102,Tryz.ntmps102;go_wp2_with fail;go_loopw [13] (fun i wr=>∃ k:Nat,k≤xs.length∧i=.int .i64 k∧wr.ownsMap Tryz.prog 9 (plainElem Tryz.prog 3) w.heap.size k (Af (xs.map (·.name)) k)∧Below w.heap.size w wr)
  (fun i _=>xs.length - (intOf i).toNat)
 case atStart=>exact ⟨0,Nat.zero_le _,rfl,World.ownsMap_made _ _ _ _,(Below.refl _ _).alloc nL _⟩
 case round =>
  obtain ⟨k,hk,rfl,hown,hbel⟩:=hrel;by_cases hlt:k<xs.length
  ·obtain ⟨x,hx⟩:∃ x,xs[k]?=some x:=⟨xs[k],List.getElem?_eq_getElem hlt⟩
   obtain ⟨b,o,rfl,_,_,hc⟩:=(HI.out.below CpyC.holds hbel nL).at hx;obtain ⟨a7,c7,q0,q1,q2,q3,q4,q5,q6,q7,q8,q9,q10,q11,z0,_,_,_,_,_,_⟩:=hc;simp only [Nat.add_zero] at q0 q1 q2 q3 q4 q5 q6 q7 q8 q9 q10 q11;have HP:Hid (Af (xs.map (·.name)) (k+1)=(Af (xs.map (·.name)) k).put (kOf x.name) (.lit (.int .i64 k))):=by
    show _=_
    simp [Af,hx]
   have hkey:keyOf Tryz.prog 9 (.string x.name)=some (kOf x.name):=keyOf_string_mk Tryz.underlying9 z0;have HO:Hid (wr.ownsMap Tryz.prog 9 (plainElem Tryz.prog 3) w.heap.size k (Af (xs.map (·.name)) k)):=hown;have HB:Hid (Below w.heap.size w wr):=hbel;have hws:w.heap.size<wr.heap.size:=hown.lt;have HRA:Hid (wr.rangeAt b (o+k*12) [.string x.name,.string x.service,.int .i64 x.rank,.int .i64 x.born,.int .i64 x.room,.int .i64 x.hold,.string x.select,.slice a7 x.likes.length c7,.int .i64 x.apart,.string x.near,.string x.fixed,.string x.at_]):=Aa q0 (Aa q1 (Aa q2 (Aa q3 (Aa q4 (Aa q5 (Aa q6 (Aa q7 (Aa q8 (Aa q9 (Aa q10 (Aa q11 (Aj _ _ _))))))))))));clear hx hown hbel q0 q1 q2 q3 q4 q5 q6 q7 q8 q9 q10 q11;generalize Af (xs.map (·.name)) k=D at *;go_upto_region 5 with (first | (refine wpList_load_mid rfl 83 _ rfl b (o+k*12) (by first | rfl | (simp [go_sem];done)) [.string x.name,.string x.service,.int .i64 x.rank,.int .i64 x.born,.int .i64 x.room,.int .i64 x.hold,.string x.select,.slice a7 x.likes.length c7,.int .i64 x.apart,.string x.near,.string x.fixed,.string x.at_] _ HRA.out Tryz.underlying83 rfl Ca ?_));have HR4:Hid ((wr.alloc (Obj.cells #[.string x.name,.string x.service,.int .i64 x.rank,.int .i64 x.born,.int .i64 x.room,.int .i64 x.hold,.string x.select,.slice a7 x.likes.length c7,.int .i64 x.apart,.string x.near,.string x.fixed,.string x.at_] 83)).rangeAt wr.heap.size 0 [.string x.name,.string x.service,.int .i64 x.rank,.int .i64 x.born,.int .i64 x.room,.int .i64 x.hold,.string x.select,.slice a7 x.likes.length c7,.int .i64 x.apart,.string x.near,.string x.fixed,.string x.at_]):=Aa (by simp) (Aa (by simp) (Aa (by simp) (Aa (by simp) (Aa (by simp) (Aa (by simp) (Aa (by simp) (Aa (by simp) (Aa (by simp) (Aa (by simp) (Aa (by simp) (Aa (by simp) (Aj _ _ _))))))))))));have HO4:Hid ((wr.alloc (Obj.cells #[.string x.name,.string x.service,.int .i64 x.rank,.int .i64 x.born,.int .i64 x.room,.int .i64 x.hold,.string x.select,.slice a7 x.likes.length c7,.int .i64 x.apart,.string x.near,.string x.fixed,.string x.at_] 83)).ownsMap Tryz.prog 9 (plainElem Tryz.prog 3) w.heap.size k D):=HO.out.alloc _;have HB4:Hid (Below w.heap.size w (wr.alloc (Obj.cells #[.string x.name,.string x.service,.int .i64 x.rank,.int .i64 x.born,.int .i64 x.room,.int .i64 x.hold,.string x.select,.slice a7 x.likes.length c7,.int .i64 x.apart,.string x.near,.string x.fixed,.string x.at_] 83))):=HB.out.alloc (by omega) _;generalize wr.alloc (Obj.cells #[.string x.name,.string x.service,.int .i64 x.rank,.int .i64 x.born,.int .i64 x.room,.int .i64 x.hold,.string x.select,.slice a7 x.likes.length c7,.int .i64 x.apart,.string x.near,.string x.fixed,.string x.at_] 83)=w4 at *;go_wp2_with (first | (refine wpList_load_mid rfl 83 _ rfl wr.heap.size 0 rfl [.string x.name,.string x.service,.int .i64 x.rank,.int .i64 x.born,.int .i64 x.room,.int .i64 x.hold,.string x.select,.slice a7 x.likes.length c7,.int .i64 x.apart,.string x.near,.string x.fixed,.string x.at_] _ HR4.out Tryz.underlying83 rfl Ca ?_))
   refine (En x a7 c7 _).mono ?_;rintro e w5 ⟨rfl,hb5⟩;have HO5:Hid (w5.ownsMap Tryz.prog 9 (plainElem Tryz.prog 3) w.heap.size k D):=Ak HO4.out hb5 HO4.out.lt;have HB5:Hid (Below w.heap.size w w5):=HB4.out.trans (hb5.mono HB4.out.size);clear hb5 HO4 HB4 HR4;go_wp2_with (at_mapUpdate;refine wpList_mapUpdate_own _ rfl _ _ _ 160 rfl 9 3 Cx Tryz.underlying160 _ w.heap.size k _ rfl HO5.out (by unfold maxLen;omega) _ _ _ rfl rfl hkey _ [] (plainElem_int Tryz.underlying3 (WalkArith.wf_i64 (by omega))) ?_;intro w6 hown6 hgrow6);have R1:=HP.out.symm▸hown6;have R2:=HB5.out.grown hgrow6 HB5.out.size (fun j hj=>by cases hj;exact Nat.le_refl _);have HR1:Hid (w6.ownsMap Tryz.prog 9 (plainElem Tryz.prog 3) w.heap.size (k+1) (Af (xs.map (·.name)) (k+1))):=R1;clear hown6 hgrow6 R1 hkey;go_wp2_with fail;go_roundw
   case rel=>exact ⟨k+1,by omega,by go_num,HR1.out,R2⟩
   case measure=>simp [intOf];omega
  ·have HO:Hid (wr.ownsMap Tryz.prog 9 (plainElem Tryz.prog 3) w.heap.size k (Af (xs.map (·.name)) k)):=hown
   clear hown;go_wp2_with fail;go_ret;have hke:k=xs.length:=by omega
   subst hke;exact ⟨rfl,HO.out,hbel⟩
end Go.Proofs.YtpeajnkkdioflaaGreat
namespace Go.Proofs.YtpeajnkkdioflaaGreat
open Go.RowKit
def ltN (a b:ByteArray):Bool:=Op.bytesLess a.toList b.toList
def Jx {α:Type} (nm:α→ByteArray) (s:ByteArray):List α→List α
 | []=>[]
 | y::r=>if nm y=s then r else y::r
def Fy {α:Type} (nm:α→ByteArray) (xs:List α) (a:α):List α:=xs.takeWhile (fun x=>ltN (nm x) (nm a))++a::Jx nm (nm a) (xs.dropWhile (fun x=>ltN (nm x) (nm a)))
theorem Kr {α:Type} {p:α→Bool}:∀ {xs:List α} {k:Nat},(∀ x∈xs.take k,p x=true)→(∀ y,xs[k]?=some y→p y=false)→xs.takeWhile p=xs.take k∧xs.dropWhile p=xs.drop k
 | [],k,_,_=>by simp
 | x::s,0,_,h2=>by
  have:=h2 x rfl;simp [this]
 | x::s,k+1,h1,h2=>by
  have hx:p x=true:=h1 x (by simp);obtain ⟨e1,e2⟩:=Kr (p:=p) (xs:=s) (k:=k) (fun y hy=>h1 y (by rw [List.take_succ_cons];exact List.mem_cons_of_mem _ hy)) (fun y hy=>h2 y (by simpa using hy));rw [List.takeWhile_cons,List.dropWhile_cons,if_pos hx,if_pos hx,e1,e2];exact ⟨rfl,rfl⟩
theorem Wl {α:Type} {nm:α→ByteArray} {xs:List α} {a:α} (h1:∀ x∈xs.take xs.length,ltN (nm x) (nm a)=true):Fy nm xs a=xs.take xs.length++a::[]:=by
 obtain ⟨e1,e2⟩:=Kr (p:=fun x=>ltN (nm x) (nm a)) h1 (fun y hy=>by simp at hy);unfold Fy;rw [e1,e2,List.drop_length];rfl
theorem Rw {α:Type} {nm:α→ByteArray} {xs:List α} {a y:α} {k:Nat} (h1:∀ x∈xs.take k,ltN (nm x) (nm a)=true) (hy:xs[k]?=some y) (hn:ltN (nm y) (nm a)=false) (he:nm y=nm a):Fy nm xs a=xs.take k++a::xs.drop (k+1):=by
 have hl:=Ad hy;have hg:xs[k]=y:=by rw [List.getElem?_eq_getElem hl] at hy;exact Option.some.inj hy
 obtain ⟨e1,e2⟩:=Kr (p:=fun x=>ltN (nm x) (nm a)) h1 (fun z hz=>by rw [hy] at hz;cases hz;exact hn);unfold Fy;rw [e1,e2,List.drop_eq_getElem_cons hl,hg];rw [show Jx nm (nm a) (y::xs.drop (k+1))=xs.drop (k+1) from if_pos he]
theorem Vf {α:Type} {nm:α→ByteArray} {xs:List α} {a y:α} {k:Nat} (h1:∀ x∈xs.take k,ltN (nm x) (nm a)=true) (hy:xs[k]?=some y) (hn:ltN (nm y) (nm a)=false) (he:nm y≠nm a):Fy nm xs a=xs.take k++a::xs.drop k:=by
 have hl:=Ad hy;have hg:xs[k]=y:=by rw [List.getElem?_eq_getElem hl] at hy;exact Option.some.inj hy
 obtain ⟨e1,e2⟩:=Kr (p:=fun x=>ltN (nm x) (nm a)) h1 (fun z hz=>by rw [hy] at hz;cases hz;exact hn);unfold Fy;rw [e1,e2,List.drop_eq_getElem_cons hl,hg];rw [show Jx nm (nm a) (y::xs.drop (k+1))=y::xs.drop (k+1) from if_neg he]
theorem Qn {α:Type} (nm:α→ByteArray) (s:ByteArray) (xs:List α):(Jx nm s xs).Sublist xs:=by
 cases xs with
 | nil=>exact List.Sublist.refl _
 | cons y r =>
  by_cases he:nm y=s
  ·rw [show Jx nm s (y::r)=r from if_pos he]
   exact List.sublist_cons_self _ _
  ·rw [show Jx nm s (y::r)=y::r from if_neg he]
   exact List.Sublist.refl _
theorem Vo {α:Type} {nm:α→ByteArray} {xs:List α} {a x:α} (h:x∈Fy nm xs a):x=a∨x∈xs:=by
 unfold Fy at h;rcases List.mem_append.1 h with h | h
 ·exact .inr ((List.takeWhile_sublist _).subset h)
 ·rcases List.mem_cons.1 h with h | h
  ·exact .inl h
  ·exact .inr (((Qn nm _ _).trans (List.dropWhile_sublist _)).subset h)
theorem Wd {α:Type} (nm:α→ByteArray) (xs:List α) (a:α):(Fy nm xs a).length≤xs.length+1:=by
 unfold Fy;have h1:=(Qn nm (nm a) (xs.dropWhile (fun x=>ltN (nm x) (nm a)))).length_le;have h2:=congrArg List.length (List.takeWhile_append_dropWhile (p:=fun x=>ltN (nm x) (nm a)) (l:=xs));rw [List.length_append] at h2;rw [List.length_append,List.length_cons];omega
structure Cnt where
 service:ByteArray
 n:Int
 apart:Int
 zone:Int
def Vx (x:Cnt):Nat:=x.service.size
def CntC:Ed Cnt:=fun _ _ f x=>f 0=some (.string x.service)∧f 1=some (.int .i64 x.n)∧f 2=some (.int .i64 x.apart)∧f 3=some (.int .i64 x.zone)∧x.service.size≤maxLen
theorem CntC.holds:Ep CntC 4:=by
 rintro lo lo' w w' f g x h _ _ ⟨q0,q1,q2,q3,z0⟩;exact ⟨(h 0 (by omega)).trans q0,(h 1 (by omega)).trans q1,(h 2 (by omega)).trans q2,(h 3 (by omega)).trans q3,z0⟩
theorem Jf:(Tryz.prog.info? 125).map (·.size)=some 4:=by kernel_rfl
theorem bF (x:Cnt) (w:World) :
  Calls Tryz.prog 66 #[.agg #[.string x.service,.int .i64 x.n,.int .i64 x.apart,.int .i64 x.zone],.agg #[.string x.service,.int .i64 x.n,.int .i64 x.apart,.int .i64 x.zone]] w fun e w'=>e=.returned (.bool true)∧Below w.heap.size w w':=by
 go_enter Tryz.func66,Tryz.ntmps66
 go_wp2
 go_ret;exact ⟨rfl,by go_grown⟩
theorem Pf:(Tryz.prog.info? 125).map (fun i=>(i.zero,i.size,i.bytes))=some (some (.agg #[.string ⟨#[]⟩,.int .i64 0,.int .i64 0,.int .i64 0]),4,40):=by kernel_rfl
theorem Kj (xs:List Cnt) (a a':Option Addr) (cap cap' lo lo':Nat) (w:World) (hg:SliceC CntC 4 lo w a xs) (hh:SliceC CntC 4 lo' w a' xs) (hsm:wS Vx xs≤1048576) :
  Calls Tryz.prog 26 #[.slice a xs.length cap,.slice a' xs.length cap'] w fun e w'=>e=.returned (.bool true)∧Below w.heap.size w w':=by
 have hlen:xs.length≤1048576:=Nat.le_trans Df hsm;have HG:Hid (SliceC CntC 4 lo w a xs):=hg;have HH:Hid (SliceC CntC 4 lo' w a' xs):=hh;clear hg hh hsm;go_enter Tryz.func26,Tryz.ntmps26;go_wp2_with fail;go_loopw [5] (fun i wr=>∃ (k:Nat),k≤xs.length∧i=.int .i64 k∧Below w.heap.size w wr) (fun i _=>xs.length - (intOf i).toNat)
 case atStart=>exact ⟨0,Nat.zero_le _,rfl,Below.refl _ _⟩
 case round =>
  obtain ⟨k,hk,rfl,hbel⟩:=hrel;by_cases hlt:k<xs.length
  ·obtain ⟨x,hx⟩:∃ x,xs[k]?=some x:=⟨xs[k],List.getElem?_eq_getElem hlt⟩
   obtain ⟨b,o,rfl,_,_,hc⟩:=(HG.out.below CntC.holds hbel nL).at hx;obtain ⟨b',o',rfl,_,_,hc'⟩:=(HH.out.below CntC.holds hbel nL).at hx;obtain ⟨q0,q1,q2,q3,_⟩:=hc;obtain ⟨r0,r1,r2,r3,_⟩:=hc';simp only [Nat.add_zero] at q0 q1 q2 q3 r0 r1 r2 r3;have k0:=cell_regrown q0;have l0:=cell_regrown r0;have k1:=cell_regrown q1;have l1:=cell_regrown r1;have k2:=cell_regrown q2;have l2:=cell_regrown r2;have k3:=cell_regrown q3;have l3:=cell_regrown r3;have cE:∀ d os,Calls Tryz.prog 66 #[.agg #[.string x.service,.int .i64 x.n,.int .i64 x.apart,.int .i64 x.zone],.agg #[.string x.service,.int .i64 x.n,.int .i64 x.apart,.int .i64 x.zone]] (Sort.grow (redrawn wr d) os) fun e w''=>e=.returned (.bool true)∧∃ p:Regrown,w''=Sort.grow (redrawn wr p.d) p.os:=fun d os=>Calls.regrown_of (bF x _)
   have i0:(0:Int)≤(k:Int):=by omega
   have i1:(k:Int)<(xs.length:Int):=by omega
   clear hx q0 q1 q2 q3 r0 r1 r2 r3;go_wp2_with fail;refine wp_region_quiet_below (by kernel_rfl) (by kernel_rfl) ?_
   repeat (quiet_step (first | exact cE _ _))
   refine wpQuiet_nil ?_;intro _ hw';obtain ⟨⟨dq,osq⟩,hw''⟩:=hw';have hB:=hbel.trans ((below_regrown wr dq osq).mono hbel.size);simp only [] at hw'';rw [← hw''] at hB;clear hw'' cE k0 l0 k1 l1 k2 l2 k3 l3;go_wp2_with fail;go_roundw
   case rel=>exact ⟨k+1,by omega,by go_num,hB⟩
   case measure=>simp [intOf];omega
  ·go_wp2_with fail
   go_ret;exact ⟨rfl,hbel⟩
end Go.Proofs.YtpeajnkkdioflaaGreat
