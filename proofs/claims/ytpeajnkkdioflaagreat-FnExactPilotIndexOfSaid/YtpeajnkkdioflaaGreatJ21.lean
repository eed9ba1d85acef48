import Derived.Test.YtpeajnkkdioflaaGreatJ20
import Derived.Test.YtpeajnkkdioflaaGreatJ14
import Derived.Maps.OwnOps
import Derived.Laws.Cover1
set_option maxHeartbeats 2000000
set_option maxRecDepth 100000
namespace Go.Proofs.YtpeajnkkdioflaaGreat
open Go.RowKit Go.WideMaps Go.Maps
def Ct (t:ByteArray) (r:List ByteArray):Nat:=r.countP (fun s=>decide (s=t))
theorem Ul (t:ByteArray) (r:List ByteArray):Ct t r≤r.length:=List.countP_le_length
theorem Kc (t:ByteArray) (r:List ByteArray):Ct t (t::r)=Ct t r+1:=by simp [Ct]
theorem Gq {t s:ByteArray} (h:¬ s=t) (r:List ByteArray):Ct t (s::r)=Ct t r:=by simp [Ct,h]
def Fj:List ByteArray→DataW Unit
 | []=>.map []
 | s::r=>(Fj r).put (kOf s) (.lit (.int .i64 (((Ct s r:Nat):Int)+1)))
theorem Ny:∀ r,IsMap (Fj r)
 | []=>⟨_,rfl⟩
 | _::r=>IsMap.put (Ny r) _ _
theorem Ns (t:ByteArray):∀ r:List ByteArray,(Fj r).atKey (kOf t) (.lit (.int .i64 0))=.lit (.int .i64 ((Ct t r:Nat):Int))
 | []=>rfl
 | s::r=>by
  unfold Fj;by_cases e:s=t
  ·subst e
   rw [atKey_put_same (Ny r) (show WideAt.IsKeyLit (kOf _) from trivial),Kc];simp
  ·rw [atKey_put_other (fun h=>e (La h).symm),Ns t r,Gq e]
def Sf (m:ByteArray):List ByteArray:=if Db m=true then (if Bu m<0 then [Ax m] else [m,Ax m]) else []
def Cg (ms:List ByteArray):Nat→List ByteArray
 | 0=>[]
 | k+1=>match ms[k]? with
  | some m=>Sf m++Cg ms k
  | none=>Cg ms k
theorem eV (m:ByteArray):(Sf m).length≤2:=by
 unfold Sf
 split
 ·split <;> simp
 ·simp
theorem Mb (ms:List ByteArray):∀ k,(Cg ms k).length≤2*k
 | 0=>by simp [Cg]
 | k+1=>by
  unfold Cg;have:=Mb ms k
  split
  ·rename_i m _
   have:=eV m;simp;omega
  ·omega
theorem Ko {ms:List ByteArray} {k:Nat} {m:ByteArray} (h:ms[k]?=some m):Cg ms (k+1)=Sf m++Cg ms k:=by
 simp [Cg,h]
theorem Vg {P:Program} {w:World} (t:TypeId):(Instr.makeMap t none).run P w=.ok (.map (some w.heap.size)) (w.alloc (.map #[] 0)):=rfl
theorem El {a b:Int} (h:(DataW.lit (Lit.int .i64 a):DataW Unit)=.lit (.int .i64 b)):a=b:=by
 injection h with h;injection h
theorem Vp (ms:List ByteArray) (a:Option Addr) (cap lo:Nat) (w:World) (hin:SliceC StrC 1 lo w a ms) (hsm:ms.length≤1048576) :
  Calls Tryz.prog 147 #[.slice a ms.length cap] w fun e w'=>∃ m n,e=.returned (.map (some m))∧w'.ownsMap Tryz.prog 9 (plainElem Tryz.prog 3) m n (Fj (Cg ms ms.length))∧Below w.heap.size w w':=by
 have hmm:∀ w,(Instr.makeMap 212 none).run Tryz.prog w=.ok (.map (some w.heap.size)) (w.alloc (.map #[] 0)):=fun w=>Vg _
 have HI:Hid (SliceC StrC 1 lo w a ms):=hin;clear hin;go_enter Tryz.func147,Tryz.ntmps147;go_wp2_with fail;go_loopw [12] (fun i wr=>∃ k n:Nat,k≤ms.length∧i=.int .i64 k∧Hid (n≤2*k)∧Hid (wr.ownsMap Tryz.prog 9 (plainElem Tryz.prog 3) w.heap.size n (Fj (Cg ms k)))∧Hid (Below w.heap.size w wr))
  (fun i _=>ms.length - (intOf i).toNat)
 case atStart=>exact ⟨0,0,Nat.zero_le _,rfl,Nat.le_refl _,World.ownsMap_made _ _ _ _,(Below.refl _ _).alloc nL _⟩
 case round =>
  obtain ⟨k,n,hk,rfl,hn,ho,hbel⟩:=hrel;by_cases hlt:k<ms.length
  ·obtain ⟨m,hm⟩:∃ m,ms[k]?=some m:=⟨ms[k],List.getElem?_eq_getElem hlt⟩
   obtain ⟨b,o,rfl,_,_,hc⟩:=(HI.out.below StrC.holds hbel.out nL).at hm;obtain ⟨q0,z0⟩:=hc;simp only [Nat.mul_one,Nat.add_zero] at q0;have HX:Hid (ms[k]?=some m):=hm;have HZ:Hid (m.size≤maxLen):=z0;clear hm z0;go_wp2_with fail;refine (Ow m _ HZ.out).mono ?_;rintro e w1 ⟨rfl,hb1⟩;have HB1:Hid (Below w.heap.size w w1):=hbel.out.trans (hb1.mono hbel.out.size);have HO1:Hid (w1.ownsMap Tryz.prog 9 (plainElem Tryz.prog 3) w.heap.size n (Fj (Cg ms k))):=Ak ho.out hb1 ho.out.lt;clear hb1 hbel ho q0
   cases hmk:Db m with
   | false =>
    have HK:Hid (Cg ms (k+1)=Cg ms k):=by show _=_;rw [Ko HX.out];simp [Sf,hmk]
    clear hmk;go_wp2_with fail;go_roundw
    case rel=>exact ⟨k+1,n,by omega,by go_num,by have:=hn.out;show _≤_;omega,by show World.ownsMap _ _ _ _ _ _ _;rw [HK.out];exact HO1.out,HB1⟩
    case measure=>simp [intOf];omega
   | true =>
    go_wp2_with fail;refine (Nr m _ HZ.out).mono ?_;rintro e w2 ⟨rfl,hb2⟩;have HB2:Hid (Below w.heap.size w w2):=HB1.out.trans (hb2.mono HB1.out.size);have HO2:Hid (w2.ownsMap Tryz.prog 9 (plainElem Tryz.prog 3) w.heap.size n (Fj (Cg ms k))):=Ak HO1.out hb2 HO1.out.lt;clear hb2 HB1 HO1;have ZN:Hid ((Ax m).size≤maxLen):=Hw HZ.out;have HKR:Hid (Sf m=if Bu m<0 then [Ax m] else [m,Ax m]):=by show _=_;simp [Sf,hmk]
    clear hmk;have hkn:keyOf Tryz.prog 9 (.string (Ax m))=some (kOf (Ax m)):=keyOf_string_mk Tryz.underlying9 ZN.out;have hkm:keyOf Tryz.prog 9 (.string m)=some (kOf m):=keyOf_string_mk Tryz.underlying9 HZ.out;have HL:Hid ((Cg ms k).length≤2*k):=Mb ms k;obtain ⟨R,hR⟩:∃ R,R=Cg ms k:=⟨_,rfl⟩;have HR:Hid (R=Cg ms k):=hR;rw [← hR] at HO2 HL;clear hR;generalize Ax m=nm at *;generalize Gw m=vl at *;obtain ⟨c0,hc0⟩:∃ c0:Nat,c0=Ct nm R:=⟨_,rfl⟩;have HA0:Hid ((Fj R).atKey (kOf nm) (.lit (.int .i64 0))=.lit (.int .i64 (c0:Int))):=by show _=_;rw [hc0];exact Ns nm R
    have hc0l:c0≤2097152:=by have:=Ul nm R;have:=HL.out;omega
    have HC0:Hid (Fj (nm::R)=(Fj R).put (kOf nm) (.lit (.int .i64 ((c0:Int)+1)))):=by show _=_;rw [hc0];rfl
    clear hc0;go_upto_region 8 with (first | (at_lookup;refine wpList_lookup_own_int _ rfl _ _ 212 rfl 9 3 .i64 Cx Tryz.underlying212 Tryz.underlying3 (Gk _) w.heap.size _ _ rfl HO2.out _ _ rfl hkn ?_;intro c hcc _;obtain rfl:=El (hcc.symm.trans HA0.out)) | (at_mapUpdate;refine wpList_mapUpdate_own _ rfl _ _ _ 212 rfl 9 3 Cx Tryz.underlying212 _ w.heap.size n _ rfl HO2.out (by have:=hn.out;unfold maxLen;omega) _ _ _ rfl rfl hkn _ [] (plainElem_int Tryz.underlying3 (WalkArith.wf_i64 (by omega))) ?_;intro w3 hown3 hgrow3));have HO3:Hid (w3.ownsMap Tryz.prog 9 (plainElem Tryz.prog 3) w.heap.size (n+1) (Fj (nm::R))):=HC0.out.symm▸hown3;have HB3:Hid (Below w.heap.size w w3):=HB2.out.grown hgrow3 HB2.out.size (fun j hj=>by cases hj;exact Nat.le_refl _);clear hown3 hgrow3 HO2 HB2 HA0 HC0 hkn;by_cases hv:Bu m<0
    ·have HK:Hid (Cg ms (k+1)=nm::R):=by show _=_;rw [Ko HX.out,HKR.out,if_pos hv,← HR.out];rfl
     have hvd:decide (Bu m<0)=true:=decide_eq_true hv;rw [hvd];clear hv hvd HKR;go_wp2_with fail;go_roundw
     case rel=>exact ⟨k+1,n+1,by omega,by go_num,by have:=hn.out;show _≤_;omega,by show World.ownsMap _ _ _ _ _ _ _;rw [HK.out];exact HO3.out,HB3⟩
     case measure=>simp [intOf];omega
    ·have HK:Hid (Cg ms (k+1)=m::nm::R):=by show _=_;rw [Ko HX.out,HKR.out,if_neg hv,← HR.out];rfl
     have hvd:decide (Bu m<0)=false:=decide_eq_false hv;rw [hvd];clear hv hvd HKR;obtain ⟨c1,hc1⟩:∃ c1:Nat,c1=Ct m (nm::R):=⟨_,rfl⟩;have HA1:Hid ((Fj (nm::R)).atKey (kOf m) (.lit (.int .i64 0))=.lit (.int .i64 (c1:Int))):=by show _=_;rw [hc1];exact Ns m _
     have hc1l:c1≤2097153:=by have:=Ul m (nm::R);have:=HL.out;simp at *;omega
     have HC1:Hid (Fj (m::nm::R)=(Fj (nm::R)).put (kOf m) (.lit (.int .i64 ((c1:Int)+1)))):=by show _=_;rw [hc1];rfl
     clear hc1;generalize Fj (nm::R)=D at *;go_upto_region 10 with (first | (at_lookup;refine wpList_lookup_own_int _ rfl _ _ 212 rfl 9 3 .i64 Cx Tryz.underlying212 Tryz.underlying3 (Gk _) w.heap.size _ _ rfl HO3.out _ _ rfl hkm ?_;intro c hcc _;obtain rfl:=El (hcc.symm.trans HA1.out)) | (at_mapUpdate;refine wpList_mapUpdate_own _ rfl _ _ _ 212 rfl 9 3 Cx Tryz.underlying212 _ w.heap.size (n+1) _ rfl HO3.out (by have:=hn.out;unfold maxLen;omega) _ _ _ rfl rfl hkm _ [] (plainElem_int Tryz.underlying3 (WalkArith.wf_i64 (by omega))) ?_;intro w4 hown4 hgrow4));have HO4:Hid (w4.ownsMap Tryz.prog 9 (plainElem Tryz.prog 3) w.heap.size (n+1+1) (Fj (m::nm::R))):=HC1.out.symm▸hown4;have HB4:Hid (Below w.heap.size w w4):=HB3.out.grown hgrow4 HB3.out.size (fun j hj=>by cases hj;exact Nat.le_refl _);clear hown4 hgrow4 HO3 HB3 HA1 HC1 hkm;go_wp2_with fail;go_roundw
     case rel=>exact ⟨k+1,n+1+1,by omega,by go_num,by have:=hn.out;show _≤_;omega,by show World.ownsMap _ _ _ _ _ _ _;rw [HK.out];exact HO4.out,HB4⟩
     case measure=>simp [intOf];omega
  ·have hke:k=ms.length:=by omega
   subst hke;go_wp2_with fail;go_ret;exact ⟨_,n,rfl,ho.out,hbel.out⟩
end Go.Proofs.YtpeajnkkdioflaaGreat
namespace Go.Proofs.YtpeajnkkdioflaaGreat
open Go.RowKit
def Bs (x:Cpy):Bool :=
 inR x.rank 0 100 && inR x.born 0 1000000 && inR x.room 0 1000 && inR x.hold 0 1000 && decide (Ay x.select=0) && Da x.likes && inR x.apart 0 2 && Bm x.near && Bm x.fixed
theorem Ac {w w':World} {g o B:Nat} {l:List Value} (h:w.rangeAt g o l) (hb:Below B w w') (hB:g<B):w'.rangeAt g o l:=by
 intro j v hj;rw [hb.cell (p:=⟨g,_,none⟩) hB];exact h j v hj
theorem Oc (x:Cpy) (a7:Option Addr) (c7 lo:Nat) (w:World) (z6:x.select.size≤maxLen) (hin:SliceC LikC 2 lo w a7 x.likes) (z9:x.near.size≤maxLen) (z10:x.fixed.size≤maxLen) :
  Calls Tryz.prog 126 #[.agg #[.string x.name,.string x.service,.int .i64 x.rank,.int .i64 x.born,.int .i64 x.room,.int .i64 x.hold,.string x.select,.slice a7 x.likes.length c7,.int .i64 x.apart,.string x.near,.string x.fixed,.string x.at_]] w fun e w'=>e=.returned (.bool (Bs x))∧Below w.heap.size w w':=by
 have HI:Hid (SliceC LikC 2 lo w a7 x.likes):=hin;have Z6:Hid (x.select.size≤maxLen):=z6;have Z9:Hid (x.near.size≤maxLen):=z9;have Z10:Hid (x.fixed.size≤maxLen):=z10;have hlen:=hin.1;unfold maxLen at hlen;clear hin z6 z9 z10;go_enter Tryz.func126,Tryz.ntmps126;go_wp2_with fail;have HR:Hid ((w.alloc (Obj.cells #[.string x.name,.string x.service,.int .i64 x.rank,.int .i64 x.born,.int .i64 x.room,.int .i64 x.hold,.string x.select,.slice a7 x.likes.length c7,.int .i64 x.apart,.string x.near,.string x.fixed,.string x.at_] 83)).rangeAt w.heap.size 0 [.string x.name,.string x.service,.int .i64 x.rank,.int .i64 x.born,.int .i64 x.room,.int .i64 x.hold,.string x.select,.slice a7 x.likes.length c7,.int .i64 x.apart,.string x.near,.string x.fixed,.string x.at_]):=Aa (by simp) (Aa (by simp) (Aa (by simp) (Aa (by simp) (Aa (by simp) (Aa (by simp) (Aa (by simp) (Aa (by simp) (Aa (by simp) (Aa (by simp) (Aa (by simp) (Aa (by simp) (Aj _ _ _))))))))))));have HB:Hid (Below w.heap.size w (w.alloc (Obj.cells #[.string x.name,.string x.service,.int .i64 x.rank,.int .i64 x.born,.int .i64 x.room,.int .i64 x.hold,.string x.select,.slice a7 x.likes.length c7,.int .i64 x.apart,.string x.near,.string x.fixed,.string x.at_] 83))):=(Below.refl _ _).alloc nL _;have HS:Hid (w.heap.size<(w.alloc (Obj.cells #[.string x.name,.string x.service,.int .i64 x.rank,.int .i64 x.born,.int .i64 x.room,.int .i64 x.hold,.string x.select,.slice a7 x.likes.length c7,.int .i64 x.apart,.string x.near,.string x.fixed,.string x.at_] 83)).heap.size):=by show _<_;simp
 generalize w.alloc (Obj.cells #[.string x.name,.string x.service,.int .i64 x.rank,.int .i64 x.born,.int .i64 x.room,.int .i64 x.hold,.string x.select,.slice a7 x.likes.length c7,.int .i64 x.apart,.string x.near,.string x.fixed,.string x.at_] 83)=w0 at *;refine (Ha _ _ _ _).mono ?_;rintro e w1 ⟨rfl,hb⟩;have HR1:Hid (w1.rangeAt w.heap.size 0 [.string x.name,.string x.service,.int .i64 x.rank,.int .i64 x.born,.int .i64 x.room,.int .i64 x.hold,.string x.select,.slice a7 x.likes.length c7,.int .i64 x.apart,.string x.near,.string x.fixed,.string x.at_]):=Ac HR.out hb HS.out;have HB1:Hid (Below w.heap.size w w1):=HB.out.trans (hb.mono HB.out.size);have HS1:Hid (w.heap.size<w1.heap.size):=Nat.lt_of_lt_of_le HS.out hb.size;clear HR HB HS hb;have HR:=HR1;have HB:=HB1;have HS:=HS1;clear HR1 HB1 HS1;cases h:inR x.rank 0 100
 ·have HC:Hid (Bs x=false):=by show _=_;simp only [Bs,h,Bool.false_and]
  clear h;go_wp2_with fail;go_ret;exact ⟨Ae HC.out.symm,HB.out⟩
 have H1:Hid ((inR x.rank 0 100)=true):=h;clear h;have e0:w1.cell? ⟨w.heap.size,3,none⟩=some (.int .i64 x.born):=HR.out 3 _ rfl;go_wp2_with fail;clear e0;refine (Ha _ _ _ _).mono ?_;rintro e w2 ⟨rfl,hb⟩;have HR2:Hid (w2.rangeAt w.heap.size 0 [.string x.name,.string x.service,.int .i64 x.rank,.int .i64 x.born,.int .i64 x.room,.int .i64 x.hold,.string x.select,.slice a7 x.likes.length c7,.int .i64 x.apart,.string x.near,.string x.fixed,.string x.at_]):=Ac HR.out hb HS.out;have HB2:Hid (Below w.heap.size w w2):=HB.out.trans (hb.mono HB.out.size);have HS2:Hid (w.heap.size<w2.heap.size):=Nat.lt_of_lt_of_le HS.out hb.size;clear HR HB HS hb;have HR:=HR2;have HB:=HB2;have HS:=HS2;clear HR2 HB2 HS2;cases h:inR x.born 0 1000000
 ·have HC:Hid (Bs x=false):=by show _=_;simp only [Bs,h,Bool.and_false,Bool.false_and]
  clear h;go_wp2_with fail;go_ret;exact ⟨Ae HC.out.symm,HB.out⟩
 have H2:Hid ((inR x.born 0 1000000)=true):=h;clear h;have e0:w2.cell? ⟨w.heap.size,4,none⟩=some (.int .i64 x.room):=HR.out 4 _ rfl;go_wp2_with fail;clear e0;refine (Hu _ _).mono ?_;rintro e w3 ⟨rfl,hb⟩;have HR3:Hid (w3.rangeAt w.heap.size 0 [.string x.name,.string x.service,.int .i64 x.rank,.int .i64 x.born,.int .i64 x.room,.int .i64 x.hold,.string x.select,.slice a7 x.likes.length c7,.int .i64 x.apart,.string x.near,.string x.fixed,.string x.at_]):=Ac HR.out hb HS.out;have HB3:Hid (Below w.heap.size w w3):=HB.out.trans (hb.mono HB.out.size);have HS3:Hid (w.heap.size<w3.heap.size):=Nat.lt_of_lt_of_le HS.out hb.size;clear HR HB HS hb;have HR:=HR3;have HB:=HB3;have HS:=HS3;clear HR3 HB3 HS3;cases h:inR x.room 0 1000
 ·have HC:Hid (Bs x=false):=by show _=_;simp only [Bs,h,Bool.and_false,Bool.false_and]
  clear h;go_wp2_with fail;go_ret;exact ⟨Ae HC.out.symm,HB.out⟩
 have H3:Hid ((inR x.room 0 1000)=true):=h;clear h;have e0:w3.cell? ⟨w.heap.size,5,none⟩=some (.int .i64 x.hold):=HR.out 5 _ rfl;go_wp2_with fail;clear e0;refine (Hu _ _).mono ?_;rintro e w4 ⟨rfl,hb⟩;have HR4:Hid (w4.rangeAt w.heap.size 0 [.string x.name,.string x.service,.int .i64 x.rank,.int .i64 x.born,.int .i64 x.room,.int .i64 x.hold,.string x.select,.slice a7 x.likes.length c7,.int .i64 x.apart,.string x.near,.string x.fixed,.string x.at_]):=Ac HR.out hb HS.out;have HB4:Hid (Below w.heap.size w w4):=HB.out.trans (hb.mono HB.out.size);have HS4:Hid (w.heap.size<w4.heap.size):=Nat.lt_of_lt_of_le HS.out hb.size;clear HR HB HS hb;have HR:=HR4;have HB:=HB4;have HS:=HS4;clear HR4 HB4 HS4;cases h:inR x.hold 0 1000
 ·have HC:Hid (Bs x=false):=by show _=_;simp only [Bs,h,Bool.and_false,Bool.false_and]
  clear h;go_wp2_with fail;go_ret;exact ⟨Ae HC.out.symm,HB.out⟩
 have H4:Hid ((inR x.hold 0 1000)=true):=h;clear h;have e0:w4.cell? ⟨w.heap.size,6,none⟩=some (.string x.select):=HR.out 6 _ rfl;go_wp2_with fail;clear e0;refine (Ka _ _ Z6.out).mono ?_;rintro e w5 ⟨rfl,hb⟩;have HR5:Hid (w5.rangeAt w.heap.size 0 [.string x.name,.string x.service,.int .i64 x.rank,.int .i64 x.born,.int .i64 x.room,.int .i64 x.hold,.string x.select,.slice a7 x.likes.length c7,.int .i64 x.apart,.string x.near,.string x.fixed,.string x.at_]):=Ac HR.out hb HS.out;have HB5:Hid (Below w.heap.size w w5):=HB.out.trans (hb.mono HB.out.size);have HS5:Hid (w.heap.size<w5.heap.size):=Nat.lt_of_lt_of_le HS.out hb.size;clear HR HB HS hb;have HR:=HR5;have HB:=HB5;have HS:=HS5;clear HR5 HB5 HS5;cases h:decide (Ay x.select=0)
 ·have HC:Hid (Bs x=false):=by show _=_;simp only [Bs,h,Bool.and_false,Bool.false_and]
  clear h;go_wp2_with fail;go_ret;exact ⟨Ae HC.out.symm,HB.out⟩
 have H5:Hid ((decide (Ay x.select=0))=true):=h;clear h;have e0:w5.cell? ⟨w.heap.size,7,none⟩=some (.slice a7 x.likes.length c7):=HR.out 7 _ rfl;go_wp2_with fail;clear e0;refine (Wi x.likes a7 c7 lo _ (HI.out.below LikC.holds HB.out nL)).mono ?_;rintro e w6 ⟨rfl,hb⟩;have HR6:Hid (w6.rangeAt w.heap.size 0 [.string x.name,.string x.service,.int .i64 x.rank,.int .i64 x.born,.int .i64 x.room,.int .i64 x.hold,.string x.select,.slice a7 x.likes.length c7,.int .i64 x.apart,.string x.near,.string x.fixed,.string x.at_]):=Ac HR.out hb HS.out;have HB6:Hid (Below w.heap.size w w6):=HB.out.trans (hb.mono HB.out.size);have HS6:Hid (w.heap.size<w6.heap.size):=Nat.lt_of_lt_of_le HS.out hb.size;clear HR HB HS hb;have HR:=HR6;have HB:=HB6;have HS:=HS6;clear HR6 HB6 HS6;cases h:Da x.likes
 ·have HC:Hid (Bs x=false):=by show _=_;simp only [Bs,h,Bool.and_false,Bool.false_and]
  clear h;go_wp2_with fail;go_ret;exact ⟨Ae HC.out.symm,HB.out⟩
 have H6:Hid ((Da x.likes)=true):=h;clear h;have e0:w6.cell? ⟨w.heap.size,8,none⟩=some (.int .i64 x.apart):=HR.out 8 _ rfl;go_wp2_with fail;clear e0;refine (Ha _ _ _ _).mono ?_;rintro e w7 ⟨rfl,hb⟩;have HR7:Hid (w7.rangeAt w.heap.size 0 [.string x.name,.string x.service,.int .i64 x.rank,.int .i64 x.born,.int .i64 x.room,.int .i64 x.hold,.string x.select,.slice a7 x.likes.length c7,.int .i64 x.apart,.string x.near,.string x.fixed,.string x.at_]):=Ac HR.out hb HS.out;have HB7:Hid (Below w.heap.size w w7):=HB.out.trans (hb.mono HB.out.size);have HS7:Hid (w.heap.size<w7.heap.size):=Nat.lt_of_lt_of_le HS.out hb.size;clear HR HB HS hb;have HR:=HR7;have HB:=HB7;have HS:=HS7;clear HR7 HB7 HS7;cases h:inR x.apart 0 2
 ·have HC:Hid (Bs x=false):=by show _=_;simp only [Bs,h,Bool.and_false,Bool.false_and]
  clear h;go_wp2_with fail;go_ret;exact ⟨Ae HC.out.symm,HB.out⟩
 have H7:Hid ((inR x.apart 0 2)=true):=h;clear h;have e0:w7.cell? ⟨w.heap.size,9,none⟩=some (.string x.near):=HR.out 9 _ rfl;go_wp2_with fail;clear e0;refine (Hh _ _ Z9.out).mono ?_;rintro e w8 ⟨rfl,hb⟩;have HR8:Hid (w8.rangeAt w.heap.size 0 [.string x.name,.string x.service,.int .i64 x.rank,.int .i64 x.born,.int .i64 x.room,.int .i64 x.hold,.string x.select,.slice a7 x.likes.length c7,.int .i64 x.apart,.string x.near,.string x.fixed,.string x.at_]):=Ac HR.out hb HS.out;have HB8:Hid (Below w.heap.size w w8):=HB.out.trans (hb.mono HB.out.size);have HS8:Hid (w.heap.size<w8.heap.size):=Nat.lt_of_lt_of_le HS.out hb.size;clear HR HB HS hb;have HR:=HR8;have HB:=HB8;have HS:=HS8;clear HR8 HB8 HS8;cases h:Bm x.near
 ·have HC:Hid (Bs x=false):=by show _=_;simp only [Bs,h,Bool.and_false,Bool.false_and]
  clear h;go_wp2_with fail;go_ret;exact ⟨Ae HC.out.symm,HB.out⟩
 have H8:Hid ((Bm x.near)=true):=h;clear h;have e0:w8.cell? ⟨w.heap.size,10,none⟩=some (.string x.fixed):=HR.out 10 _ rfl;go_wp2_with fail;clear e0;refine (Hh _ _ Z10.out).mono ?_;rintro e w9 ⟨rfl,hb⟩;have HR9:Hid (w9.rangeAt w.heap.size 0 [.string x.name,.string x.service,.int .i64 x.rank,.int .i64 x.born,.int .i64 x.room,.int .i64 x.hold,.string x.select,.slice a7 x.likes.length c7,.int .i64 x.apart,.string x.near,.string x.fixed,.string x.at_]):=Ac HR.out hb HS.out;have HB9:Hid (Below w.heap.size w w9):=HB.out.trans (hb.mono HB.out.size);have HS9:Hid (w.heap.size<w9.heap.size):=Nat.lt_of_lt_of_le HS.out hb.size;clear HR HB HS hb;have HR:=HR9;have HB:=HB9;have HS:=HS9;clear HR9 HB9 HS9;cases h:Bm x.fixed
 ·have HC:Hid (Bs x=false):=by show _=_;simp only [Bs,h,Bool.and_false]
  clear h;go_wp2_with fail;go_ret;exact ⟨Ae HC.out.symm,HB.out⟩
 have H9:Hid ((Bm x.fixed)=true):=h;clear h;have HC:Hid (Bs x=true):=by show _=_;simp only [Bs,H1.out,H2.out,H3.out,H4.out,H5.out,H6.out,H7.out,H8.out,H9.out,Bool.and_self]
 go_wp2_with fail;go_ret;exact ⟨Ae HC.out.symm,HB.out⟩
end Go.Proofs.YtpeajnkkdioflaaGreat
