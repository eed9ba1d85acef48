import Derived.Test.YtihnjndnkgnmaaaGreatJ17
import Derived.Lib.Strings
import Derived.Lib.Slices
import Derived.Lib.IndexLaws
import Derived.Test.YtihnjndnkgnmaaaGreatJ12
import Derived.Maps.OwnOps
import Derived.Laws.Cover1
set_option maxHeartbeats 2000000
set_option maxRecDepth 100000
namespace Go.Proofs.YtihnjndnkgnmaaaGreat
open Go.RowKit
def inR (n a b:Int):Bool:=decide (a≤n) && decide (n≤b)
theorem Fp (n a b:Int) (w:World) :
  Calls Tryz.prog 63 #[.int .i64 n,.int .i64 a,.int .i64 b] w (Rt (.bool (inR n a b)) w):=by
 by_cases h1:a≤n
 ·by_cases h2:n≤b
  ·have HC:Hid (inR n a b=true):=by show _=_;simp [inR,h1,h2]
   go_enter Tryz.func63,Tryz.ntmps63;go_wp2_with fail;go_ret;exact ⟨Ah HC.out.symm,by go_grown⟩
  ·have HC:Hid (inR n a b=false):=by show _=_;simp [inR,h2]
   go_enter Tryz.func63,Tryz.ntmps63;go_wp2_with fail;go_ret;exact ⟨Ah HC.out.symm,by go_grown⟩
 ·have HC:Hid (inR n a b=false):=by show _=_;simp [inR,h1]
  go_enter Tryz.func63,Tryz.ntmps63;go_wp2_with fail;go_ret;exact ⟨Ah HC.out.symm,by go_grown⟩
theorem Im (n:Int) (w:World) :
  Calls Tryz.prog 116 #[.int .i64 n] w (Rt (.bool (inR n 0 1000)) w):=by
 go_enter Tryz.func116,Tryz.ntmps116;go_wp2_with fail;refine (Fp _ _ _ _).mono ?_;rintro e w1 ⟨rfl,hb⟩;go_wp2_with fail;go_ret;exact ⟨rfl,hb⟩
def Bq (s:BA):Bool:=decide (s.size=0) || P.nameOk s
theorem Hs (s:BA) (w:World) (hs:s.size≤maxLen) :
  Calls Tryz.prog 137 #[.string s] w (Rt (.bool (Bq s)) w):=by
 by_cases h:s=⟨#[]⟩
 ·have HC:Hid (Bq s=true):=by show _=_;subst h;rfl
  have hte:s.toList=[]:=by subst h;simp
  clear h;go_enter Tryz.func137,Tryz.ntmps137;go_wp2_with fail;go_ret;exact ⟨Ah HC.out.symm,by go_grown⟩
 ·have HC:Hid (Bq s=P.nameOk s):=by
   show _=_
   have:s.size≠0:=fun e=>h (ByteArray.ext (Array.eq_empty_of_size_eq_zero e))
   simp [Bq,this]
  have hte:¬ s.toList=[]:=by
   rw [ByteArray.toList_eq];exact fun e=>h (by cases s with | mk x=>cases x;simp at e;simp [e])
  have HZ:=iH hs;clear h hs;go_enter Tryz.func137,Tryz.ntmps137;go_wp2_with fail;refine (Bz _ _ HZ).mono ?_;rintro e w1 ⟨rfl,rfl⟩;go_wp2_with fail;go_ret;have hem:s.toList.isEmpty=false:=by simpa using hte
  exact ⟨Ah (by rw [hem,Bool.false_or];exact HC.out.symm),by go_grown⟩
def Fj (l:Lik):Bool:=decide (Bc l.select=0) && inR l.weight (-9) 9
def Dk (xs:List Lik):Bool:=decide (xs.length≤5) && xs.all Fj
theorem Vo (xs:List Lik) (a:OA) (cap lo:Nat) (w:World) (hin:SliceC LikC 2 lo w a xs) :
  Calls Tryz.prog 136 #[.slice a xs.length cap] w (Rt (.bool (Dk xs)) w):=by
 have hlen:=hin.1;unfold maxLen at hlen;have HI:=iH hin;clear hin;by_cases h5:xs.length≤5
 ·go_enter Tryz.func136,Tryz.ntmps136
  go_wp2_with fail;go_loopw [10] (fun i wr=>∃ k:Nat,k≤xs.length∧i=.int .i64 k∧Hid (∀ j x,j<k→xs[j]?=some x→Fj x=true)∧Below w.heap.size w wr) (fun i _=>xs.length - (intOf i).toNat)
  case atStart=>exact ⟨0,zL,rfl,fun j x h=>absurd h (Nat.not_lt_zero _),by go_grown⟩
  case round =>
   obtain ⟨k,hk,rfl,ho,hbel⟩:=hrel;by_cases hlt:k<xs.length
   ·obtain ⟨x,hx⟩:=gX hlt
    obtain ⟨b,o,rfl,_,_,hc⟩:=(HI.out.below LikC.holds hbel nL).at hx;obtain ⟨q0,q1,z0⟩:=hc;simp only [Nat.add_zero] at q0 q1;have HX:=iH hx;have HZ:=iH z0;have HB:=iH hbel;have HSZ:Hid (w.heap.size≤wr.heap.size):=hbel.size;clear hx z0 hbel;go_upto_region 6 with fail;have e0:(wr.alloc (Obj.cells #[.string x.select,.int .i64 x.weight] 125)).cell? ⟨wr.heap.size,0,none⟩=some (.string x.select):=by simp
    have e1:(wr.alloc (Obj.cells #[.string x.select,.int .i64 x.weight] 125)).cell? ⟨wr.heap.size,1,none⟩=some (.int .i64 x.weight):=by simp
    have HB4:Hid (Below w.heap.size w (wr.alloc (Obj.cells #[.string x.select,.int .i64 x.weight] 125))):=HB.out.alloc HSZ _;have hs4:wr.heap.size<(wr.alloc (Obj.cells #[.string x.select,.int .i64 x.weight] 125)).heap.size:=by simp
    clear HB HSZ q0 q1;generalize wr.alloc (Obj.cells #[.string x.select,.int .i64 x.weight] 125)=w4 at *;cases hr:decide (Bc x.select=0)
    ·have HC:Hid (Dk xs=false):=by
      show _=_
      have hm:=List.mem_of_getElem? HX;have:Fj x=false:=by simp [Fj,hr]
      have:xs.all Fj=false:=List.all_eq_false.mpr ⟨x,hm,by simp [this]⟩;simp [Dk,this]
     have HR:=iH hr;clear hr;go_wp2_with fail;refine (Ki _ _ HZ).mono ?_;rintro e w5 ⟨rfl,hb5⟩;rw [HR.out];have HB5:=qT HB4 hb5;clear hb5;go_wp2_with fail;go_ret;exact ⟨Ah HC.out.symm,HB5⟩
    ·have HR:=iH hr
     go_wp2_with fail;refine (Ki _ _ HZ).mono ?_;rintro e w5 ⟨rfl,hb5⟩;rw [HR.out];have e5:w5.cell? ⟨wr.heap.size,1,none⟩=some (.int .i64 x.weight):=by rw [hb5.cell (p:=⟨wr.heap.size,1,none⟩) hs4];exact e1
     have HB5:=qT HB4 hb5;clear hb5 e0 e1 hs4 HB4;go_wp2_with fail;refine (Fp _ _ _ _).mono ?_;rintro e w6 ⟨rfl,hb6⟩;have HB6:=qT HB5 hb6;clear hb6 HB5 e5;cases hi:inR x.weight (-9) 9
     ·have HC:Hid (Dk xs=false):=by
       show _=_
       have hm:=List.mem_of_getElem? HX;have:Fj x=false:=by simp [Fj,hi]
       have:xs.all Fj=false:=List.all_eq_false.mpr ⟨x,hm,by simp [this]⟩;simp [Dk,this]
      clear hi hr;go_wp2_with fail;go_ret;exact ⟨Ah HC.out.symm,HB6⟩
     ·have HO:Hid (∀ j y,j<k+1→xs[j]?=some y→Fj y=true):=by
       intro j y hj hy;by_cases e:j=k
       ·subst e
        rw [HX.out] at hy;cases hy
        simp only [Fj,hi,HR.out,Bool.and_self]
       ·exact ho.out j y (by omega) hy
      clear hi hr ho;go_wp2_with fail;go_roundw
      case rel=>exact ⟨k+1,by omega,by go_num,HO,HB6⟩
      case measure=>simp [intOf];omega
   ·have hke:k=xs.length:=by omega
    subst hke;have HC:Hid (Dk xs=true):=by
     show _=_
     simp only [Dk,h5,decide_true,Bool.true_and,List.all_eq_true];intro x hx;obtain ⟨j,hj,e⟩:=List.mem_iff_getElem.mp hx;exact ho.out j x hj (by rw [gE hj,e])
    clear ho;go_wp2_with fail;go_ret;exact ⟨Ah HC.out.symm,hbel⟩
 ·have HC:Hid (Dk xs=false):=by show _=_;simp [Dk,h5]
  go_enter Tryz.func136,Tryz.ntmps136;go_wp2_with fail;go_ret;exact ⟨Ah HC.out.symm,by go_grown⟩
theorem Qm (s:BA) (c:Int) (w:World) :
  Calls Tryz.prog 164 #[.string s,.int .u8 c] w fun e w'=>e=.returned (.int .i64 (Lib.indexByte s.data.toList c.toNat.toUInt8))∧w'=w:=by
 go_enter Tryz.func164,Tryz.ntmps164
 go_wp2
 rw [run_callFunc_extern Tryz.func171 (by kernel_rfl) (by kernel_rfl) (by kernel_rfl) (e:=Extern.BytealgIndexByte.indexByte) (by kernel_rfl),Lib.run_indexByteString];simp only [Result.andThen];rw [Oper.upon_value]
 go_wp2
 go_ret;exact ⟨rfl,rfl⟩
def Cg (s:BA):Int:=Lib.indexByte s.data.toList 61
def Az (s:BA):BA:=if Cg s<0 then s else s.extract 0 (Cg s).toNat
def Gt (s:BA):BA:=if Cg s<0 then ⟨#[]⟩ else s.extract ((Cg s).toNat+1) s.size
def Dp (s:BA):Bool:=P.nameOk (Az s) && (decide (Cg s<0) || P.nameOk (Gt s))
theorem Sg (s:BA) (w:World) :
  Calls Tryz.prog 158 #[.string s,.string ⟨#[61]⟩] w fun e w'=>e=.returned (.int .i64 (Cg s))∧w'=w:=by
 go_enter Tryz.func158,Tryz.ntmps158;go_wp2_with (go_at_call 164;refine (Qm _ _ _).mono ?_;rintro e w' ⟨rfl,rfl⟩)
 ·have h:([61] == s.toList)=true:=by assumption
  go_ret;refine ⟨?_,rfl⟩;have e:s.data.toList=[61]:=by rw [← Lib.toList_data];exact (beq_iff_eq.1 h).symm
  unfold Cg;rw [e];simp [Lib.indexByte]
 ·go_ret
  exact ⟨rfl,rfl⟩
theorem Oj (s:BA):-1≤Cg s:=Lib.indexByte_ge _ _
theorem Vs {s:BA} {o:Nat} (h:Cg s=o):o<s.size:=by
 have:=(Lib.indexByte_some h).1;rcases Nat.lt_or_ge o s.data.toList.length with h' | h'
 ·simpa using h'
 ·rw [List.getElem?_eq_none h'] at this;cases this
theorem Wo (s:BA) (w:World) (hs:s.size≤maxLen) :
  Calls Tryz.prog 151 #[.string s,.string ⟨#[61]⟩] w (Rt (.tuple #[.string (Az s),.string (Gt s),.bool (!decide (Cg s<0))]) w):=by
 unfold maxLen at hs;by_cases hn:Cg s<0
 ·have HN:=iH hn
  have h1:Cg s=-1:=by have:=Oj s;omega
  go_enter Tryz.func151,Tryz.ntmps151;go_wp2_with (go_at_call 158;refine (Sg _ _).mono ?_;rintro e w' ⟨rfl,rfl⟩;rw [h1])
  go_ret3
  exact ⟨by unfold Az Gt;rw [if_pos HN.out,if_pos HN.out,decide_eq_true HN.out];rfl,by go_grown⟩
 ·obtain ⟨o,ho⟩:∃ o:Nat,Cg s=o:=⟨(Cg s).toNat,by omega⟩
  have hlt:=Vs ho;have HN:=iH hn;have HO:=iH ho;clear hn;go_enter Tryz.func151,Tryz.ntmps151;go_wp2_with (go_at_call 158;refine (Sg _ _).mono ?_;rintro e w' ⟨rfl,rfl⟩;rw [HO.out]);have i0:(0:Int)≤(o:Int):=by omega
  have i1:(o:Int)≤(s.size:Int):=by omega
  obtain ⟨n1,hn1⟩:∃ n1:Nat,n1=o+1:=⟨_,rfl⟩;have i2:(n1:Int)≤(s.size:Int):=by omega
  have i3:(0:Int)≤(n1:Int):=by omega
  have HW:Hid (IntKind.i64.wrap ((o:Int)+1)=(n1:Int)):=by show _=_;rw [IntKind.wrap_i64];omega
  have HN1:=iH hn1;clear hn1;clear ho;refine wp_region_quiet_below (by kernel_rfl) (by kernel_rfl) ?_
  repeat (quiet_step (fail))
  rw [HW.out]
  repeat (quiet_step (fail))
  refine wpQuiet_nil ?_;intro _ hw';obtain ⟨⟨dq,osq⟩,hw''⟩:=hw';have hB:=below_regrown w' dq osq;simp only [] at hw'';rw [← hw''] at hB;clear hw'';have HB:=iH hB;clear hB;go_wp2_with fail
  go_ret3
  have HN2:¬ Cg s<0:=by have:=HN.out;omega
  refine ⟨?_,HB⟩;unfold Az Gt;rw [if_neg HN2,if_neg HN2,decide_eq_false HN2,HO.out];simp [HN1.out]
theorem Nx (s:BA) (w:World) (hs:s.size≤maxLen) :
  Calls Tryz.prog 134 #[.string s,.string ⟨#[61]⟩] w (Rt (.tuple #[.string (Az s),.string (Gt s),.bool (!decide (Cg s<0))]) w):=by
 have HS:=iH hs;clear hs;go_enter Tryz.func134,Tryz.ntmps134;go_wp2_with fail;refine (Wo s _ HS).mono ?_;rintro e w1 ⟨rfl,hb⟩;have HB:Hid (Below w.heap.size w w1):=(show Below w.heap.size w _ by go_grown).trans (hb.mono (by simp));clear hb;go_wp2_with fail
 go_ret3
 exact ⟨rfl,HB⟩
theorem Il {s:BA} (hs:s.size≤maxLen):(Az s).size≤maxLen:=by
 unfold Az
 split
 ·exact hs
 ·simp [ByteArray.size_extract];omega
theorem Rw {s:BA} (hs:s.size≤maxLen):(Gt s).size≤maxLen:=by
 unfold Gt
 split
 ·simp [ByteArray.size,maxLen]
 ·simp [ByteArray.size_extract];omega
theorem Oo (s:BA) (w:World) (hs:s.size≤maxLen) :
  Calls Tryz.prog 133 #[.string s] w (Rt (.bool (Dp s)) w):=by
 have HS:=iH hs;have HM:Hid (Dp s=(P.nameOk (Az s) && (decide (Cg s<0) || P.nameOk (Gt s)))):=rfl;clear hs;generalize Dp s=R at *;go_enter Tryz.func133,Tryz.ntmps133;go_wp2_with fail;refine (Nx s _ HS).mono ?_;rintro e w1 ⟨rfl,hb⟩;have HB:Hid (Below w.heap.size w w1):=(show Below w.heap.size w _ by go_grown).trans (hb.mono (by simp));clear hb;have Z1:Hid ((Az s).size≤maxLen):=Il HS;have Z2:Hid ((Gt s).size≤maxLen):=Rw HS;generalize Az s=x at *;generalize Gt s=y at *;generalize decide (Cg s<0)=b at *;go_wp2_with fail;refine (Bz x _ Z1).mono ?_;rintro e w2 ⟨rfl,rfl⟩
 cases hx:P.nameOk x with
 | false =>
  rw [hx] at HM;go_wp2_with fail;go_ret;exact ⟨Ah (by rw [HM.out];rfl),HB⟩
 | true =>
  rw [hx] at HM
  cases b with
  | true =>
   go_wp2_with fail;go_ret;exact ⟨Ah (by rw [HM.out];rfl),HB⟩
  | false =>
   go_wp2_with fail;refine (Bz y _ Z2).mono ?_;rintro e w2 ⟨rfl,rfl⟩;generalize P.nameOk y=c at *;go_wp2_with fail;go_ret;exact ⟨Ah (by rw [HM.out];simp),HB⟩
end Go.Proofs.YtihnjndnkgnmaaaGreat
namespace Go.Proofs.YtihnjndnkgnmaaaGreat
open Go.RowKit Go.WideMaps Go.Maps
def Dc (t:BA) (r:List BA):Nat:=r.countP (fun s=>decide (s=t))
theorem Vw (t:BA) (r:List BA):Dc t r≤r.length:=List.countP_le_length
theorem Kv (t:BA) (r:List BA):Dc t (t::r)=Dc t r+1:=by simp [Dc]
theorem Hb {t s:BA} (h:¬ s=t) (r:List BA):Dc t (s::r)=Dc t r:=by simp [Dc,h]
def Ih:List BA→DataW Unit
 | []=>.map []
 | s::r=>(Ih r).put (kOf s) (.lit (.int .i64 (((Dc s r:Nat):Int)+1)))
theorem Oi:∀ r,IsMap (Ih r)
 | []=>⟨_,rfl⟩
 | _::r=>IsMap.put (Oi r) _ _
theorem Oe (t:BA):∀ r:List BA,(Ih r).atKey (kOf t) (.lit (.int .i64 0))=.lit (.int .i64 ((Dc t r:Nat):Int))
 | []=>rfl
 | s::r=>by
  unfold Ih;by_cases e:s=t
  ·subst e
   rw [atKey_put_same (Oi r) (show WideAt.IsKeyLit (kOf _) from trivial),Kv];simp
  ·rw [atKey_put_other (fun h=>e (Tp h).symm),Oe t r,Hb e]
def Ur (m:BA):List BA:=if Dp m=true then (if Cg m<0 then [Az m] else [m,Az m]) else []
def Da (ms:List BA):Nat→List BA
 | 0=>[]
 | k+1=>match ms[k]? with
  | some m=>Ur m++Da ms k
  | none=>Da ms k
theorem eD (m:BA):(Ur m).length≤2:=by
 unfold Ur
 split
 ·split <;> simp
 ·simp
theorem Ml (ms:List BA):∀ k,(Da ms k).length≤2*k
 | 0=>by simp [Da]
 | k+1=>by
  unfold Da;have:=Ml ms k
  split
  ·rename_i m _
   have:=eD m;simp;omega
  ·omega
theorem Kn {ms:List BA} {k:Nat} {m:BA} (h:ms[k]?=some m):Da ms (k+1)=Ur m++Da ms k:=by
 simp [Da,h]
theorem Wh {P:Program} {w:World} (t:TypeId):(Instr.makeMap t none).run P w=.ok (.map (some w.heap.size)) (w.alloc (.map #[] 0)):=rfl
theorem Ez {a b:Int} (h:(DataW.lit (Lit.int .i64 a):DataW Unit)=.lit (.int .i64 b)):a=b:=by
 injection h with h;injection h
theorem Ut (ms:List BA) (a:OA) (cap lo:Nat) (w:World) (hin:SliceC StrC 1 lo w a ms) (hsm:ms.length≤1048576) :
  Calls Tryz.prog 132 #[.slice a ms.length cap] w fun e w'=>∃ m n,e=.returned (.map (some m))∧w'.ownsMap Tryz.prog 9 (plainElem Tryz.prog 3) m n (Ih (Da ms ms.length))∧Below w.heap.size w w':=by
 have hmm:∀ w,(Instr.makeMap 179 none).run Tryz.prog w=.ok (.map (some w.heap.size)) (w.alloc (.map #[] 0)):=fun w=>Wh _
 have HI:=iH hin;clear hin;go_enter Tryz.func132,Tryz.ntmps132;go_wp2_with fail;go_loopw [12] (fun i wr=>∃ k n:Nat,k≤ms.length∧i=.int .i64 k∧Hid (n≤2*k)∧Hid (wr.ownsMap Tryz.prog 9 (plainElem Tryz.prog 3) w.heap.size n (Ih (Da ms k)))∧Hid (Below w.heap.size w wr))
  (fun i _=>ms.length - (intOf i).toNat)
 case atStart=>exact ⟨0,0,zL,rfl,Nat.le_refl _,World.ownsMap_made _ _ _ _,(Below.refl _ _).alloc nL _⟩
 case round =>
  obtain ⟨k,n,hk,rfl,hn,ho,hbel⟩:=hrel;by_cases hlt:k<ms.length
  ·obtain ⟨m,hm⟩:=gX hlt
   obtain ⟨b,o,rfl,_,_,hc⟩:=(HI.out.below StrC.holds hbel.out nL).at hm;obtain ⟨q0,z0⟩:=hc;simp only [Nat.mul_one,Nat.add_zero] at q0;have HX:=iH hm;have HZ:=iH z0;clear hm z0;go_wp2_with fail;refine (Oo m _ HZ).mono ?_;rintro e w1 ⟨rfl,hb1⟩;have HB1:=qT hbel hb1;have HO1:=iH (Am ho.out hb1 ho.out.lt);clear hb1 hbel ho q0
   cases hmk:Dp m with
   | false =>
    have HK:Hid (Da ms (k+1)=Da ms k):=by show _=_;rw [Kn HX.out];simp [Ur,hmk]
    clear hmk;go_wp2_with fail;go_roundw
    case rel=>exact ⟨k+1,n,by omega,by go_num,by have:=hn.out;show _≤_;omega,by show World.ownsMap _ _ _ _ _ _ _;rw [HK.out];exact HO1.out,HB1⟩
    case measure=>simp [intOf];omega
   | true =>
    go_wp2_with fail;refine (Nx m _ HZ).mono ?_;rintro e w2 ⟨rfl,hb2⟩;have HB2:=qT HB1 hb2;have HO2:=iH (Am HO1 hb2 HO1.out.lt);clear hb2 HB1 HO1;have ZN:Hid ((Az m).size≤maxLen):=Il HZ;have HKR:Hid (Ur m=if Cg m<0 then [Az m] else [m,Az m]):=by show _=_;simp [Ur,hmk]
    clear hmk;have hkn:keyOf Tryz.prog 9 (.string (Az m))=some (kOf (Az m)):=keyOf_string_mk Tryz.underlying9 ZN;have hkm:keyOf Tryz.prog 9 (.string m)=some (kOf m):=keyOf_string_mk Tryz.underlying9 HZ;have HL:Hid ((Da ms k).length≤2*k):=Ml ms k;obtain ⟨R,hR⟩:∃ R,R=Da ms k:=⟨_,rfl⟩;have HR:=iH hR;rw [← hR] at HO2 HL;clear hR;generalize Az m=nm at *;generalize Gt m=vl at *;obtain ⟨c0,hc0⟩:∃ c0:Nat,c0=Dc nm R:=⟨_,rfl⟩;have HA0:Hid ((Ih R).atKey (kOf nm) (.lit (.int .i64 0))=.lit (.int .i64 (c0:Int))):=by show _=_;rw [hc0];exact Oe nm R
    have hc0l:c0≤2097152:=by have:=Vw nm R;have:=HL.out;omega
    have HC0:Hid (Ih (nm::R)=(Ih R).put (kOf nm) (.lit (.int .i64 ((c0:Int)+1)))):=by show _=_;rw [hc0];rfl
    clear hc0;go_upto_region 8 with (first | (at_lookup;refine wpList_lookup_own_int _ rfl _ _ 179 rfl 9 3 .i64 En Tryz.underlying179 Tryz.underlying3 (Gi _) w.heap.size _ _ rfl HO2 _ _ rfl hkn ?_;intro c hcc _;obtain rfl:=Ez (hcc.symm.trans HA0)) | (at_mapUpdate;refine wpList_mapUpdate_own _ rfl _ _ _ 179 rfl 9 3 En Tryz.underlying179 _ w.heap.size n _ rfl HO2 (by have:=hn.out;unfold maxLen;omega) _ _ _ rfl rfl hkn _ [] (plainElem_int Tryz.underlying3 (WalkArith.wf_i64 (by omega))) ?_;intro w3 hown3 hgrow3));have HO3:Hid (w3.ownsMap Tryz.prog 9 (plainElem Tryz.prog 3) w.heap.size (n+1) (Ih (nm::R))):=HC0.out.symm▸hown3;have HB3:Hid (Below w.heap.size w w3):=HB2.out.grown hgrow3 HB2.out.size (fun j hj=>by cases hj;exact Nat.le_refl _);clear hown3 hgrow3 HO2 HB2 HA0 HC0 hkn;by_cases hv:Cg m<0
    ·have HK:Hid (Da ms (k+1)=nm::R):=by show _=_;rw [Kn HX.out,HKR.out,if_pos hv,← HR.out];rfl
     have hvd:decide (Cg m<0)=true:=decide_eq_true hv;rw [hvd];clear hv hvd HKR;go_wp2_with fail;go_roundw
     case rel=>exact ⟨k+1,n+1,by omega,by go_num,by have:=hn.out;show _≤_;omega,by show World.ownsMap _ _ _ _ _ _ _;rw [HK.out];exact HO3.out,HB3⟩
     case measure=>simp [intOf];omega
    ·have HK:Hid (Da ms (k+1)=m::nm::R):=by show _=_;rw [Kn HX.out,HKR.out,if_neg hv,← HR.out];rfl
     have hvd:decide (Cg m<0)=false:=decide_eq_false hv;rw [hvd];clear hv hvd HKR;obtain ⟨c1,hc1⟩:∃ c1:Nat,c1=Dc m (nm::R):=⟨_,rfl⟩;have HA1:Hid ((Ih (nm::R)).atKey (kOf m) (.lit (.int .i64 0))=.lit (.int .i64 (c1:Int))):=by show _=_;rw [hc1];exact Oe m _
     have hc1l:c1≤2097153:=by have:=Vw m (nm::R);have:=HL.out;simp at *;omega
     have HC1:Hid (Ih (m::nm::R)=(Ih (nm::R)).put (kOf m) (.lit (.int .i64 ((c1:Int)+1)))):=by show _=_;rw [hc1];rfl
     clear hc1;generalize Ih (nm::R)=D at *;go_upto_region 10 with (first | (at_lookup;refine wpList_lookup_own_int _ rfl _ _ 179 rfl 9 3 .i64 En Tryz.underlying179 Tryz.underlying3 (Gi _) w.heap.size _ _ rfl HO3 _ _ rfl hkm ?_;intro c hcc _;obtain rfl:=Ez (hcc.symm.trans HA1)) | (at_mapUpdate;refine wpList_mapUpdate_own _ rfl _ _ _ 179 rfl 9 3 En Tryz.underlying179 _ w.heap.size (n+1) _ rfl HO3 (by have:=hn.out;unfold maxLen;omega) _ _ _ rfl rfl hkm _ [] (plainElem_int Tryz.underlying3 (WalkArith.wf_i64 (by omega))) ?_;intro w4 hown4 hgrow4));have HO4:Hid (w4.ownsMap Tryz.prog 9 (plainElem Tryz.prog 3) w.heap.size (n+1+1) (Ih (m::nm::R))):=HC1.out.symm▸hown4;have HB4:Hid (Below w.heap.size w w4):=HB3.out.grown hgrow4 HB3.out.size (fun j hj=>by cases hj;exact Nat.le_refl _);clear hown4 hgrow4 HO3 HB3 HA1 HC1 hkm;go_wp2_with fail;go_roundw
     case rel=>exact ⟨k+1,n+1+1,by omega,by go_num,by have:=hn.out;show _≤_;omega,by show World.ownsMap _ _ _ _ _ _ _;rw [HK.out];exact HO4.out,HB4⟩
     case measure=>simp [intOf];omega
  ·have hke:k=ms.length:=by omega
   subst hke;go_wp2_with fail;go_ret;exact ⟨_,n,rfl,ho.out,hbel.out⟩
end Go.Proofs.YtihnjndnkgnmaaaGreat
namespace Go.Proofs.YtihnjndnkgnmaaaGreat
open Go.RowKit
def Cd (x:Cpy):Bool :=
 inR x.rank 0 100 && inR x.born 0 1000000 && inR x.room 0 1000 && inR x.hold 0 1000 && decide (Bc x.select=0) && Dk x.likes && inR x.apart 0 2 && Bq x.near && Bq x.fixed
theorem Ab {w w':World} {g o B:Nat} {l:List Value} (h:w.rangeAt g o l) (hb:Below B w w') (hB:g<B):w'.rangeAt g o l:=by
 intro j v hj;rw [hb.cell (p:=⟨g,_,none⟩) hB];exact h j v hj
theorem Pr (x:Cpy) (a7:OA) (c7 lo:Nat) (w:World) (z6:x.select.size≤maxLen) (hin:SliceC LikC 2 lo w a7 x.likes) (z9:x.near.size≤maxLen) (z10:x.fixed.size≤maxLen) :
  Calls Tryz.prog 118 #[.agg (ccA x a7 c7)] w (Rt (.bool (Cd x)) w):=by
 have HI:=iH hin;have Z6:=iH z6;have Z9:=iH z9;have Z10:=iH z10;have hlen:=hin.1;unfold maxLen at hlen;clear hin z6 z9 z10;go_enter Tryz.func118,Tryz.ntmps118;go_wp2_with fail;have HR:=ra w (ccA x a7 c7) 48 (ccL x a7 c7);have HB:=iH ((Below.refl _ w).alloc nL (Obj.cells (ccA x a7 c7) 48));have HS:Hid (w.heap.size<(w.alloc (Obj.cells (ccA x a7 c7) 48)).heap.size):=by show _<_;simp
 generalize w.alloc (Obj.cells (ccA x a7 c7) 48)=w0 at *;refine (Fp _ _ _ _).mono ?_;rintro e w1 ⟨rfl,hb⟩;have HR1:=iH (Ab HR hb HS);have HB1:=qT HB hb;have HS1:Hid (w.heap.size<w1.heap.size):=lL HS hb.size;clear HR HB HS hb;have HR:=HR1;have HB:=HB1;have HS:=HS1;clear HR1 HB1 HS1;cases h:inR x.rank 0 100
 ·have HC:Hid (Cd x=false):=by show _=_;simp only [Cd,h,Bool.false_and]
  clear h;go_wp2_with fail;go_ret;exact ⟨Ah HC.out.symm,HB⟩
 have H1:=iH h;clear h;have e0:w1.cell? ⟨w.heap.size,3,none⟩=some (.int .i64 x.born):=HR.out 3 _ rfl;go_wp2_with fail;clear e0;refine (Fp _ _ _ _).mono ?_;rintro e w2 ⟨rfl,hb⟩;have HR2:=iH (Ab HR hb HS);have HB2:=qT HB hb;have HS2:Hid (w.heap.size<w2.heap.size):=lL HS hb.size;clear HR HB HS hb;have HR:=HR2;have HB:=HB2;have HS:=HS2;clear HR2 HB2 HS2;cases h:inR x.born 0 1000000
 ·have HC:Hid (Cd x=false):=by show _=_;simp only [Cd,h,Bool.and_false,Bool.false_and]
  clear h;go_wp2_with fail;go_ret;exact ⟨Ah HC.out.symm,HB⟩
 have H2:=iH h;clear h;have e0:w2.cell? ⟨w.heap.size,4,none⟩=some (.int .i64 x.room):=HR.out 4 _ rfl;go_wp2_with fail;clear e0;refine (Im _ _).mono ?_;rintro e w3 ⟨rfl,hb⟩;have HR3:=iH (Ab HR hb HS);have HB3:=qT HB hb;have HS3:Hid (w.heap.size<w3.heap.size):=lL HS hb.size;clear HR HB HS hb;have HR:=HR3;have HB:=HB3;have HS:=HS3;clear HR3 HB3 HS3;cases h:inR x.room 0 1000
 ·have HC:Hid (Cd x=false):=by show _=_;simp only [Cd,h,Bool.and_false,Bool.false_and]
  clear h;go_wp2_with fail;go_ret;exact ⟨Ah HC.out.symm,HB⟩
 have H3:=iH h;clear h;have e0:w3.cell? ⟨w.heap.size,5,none⟩=some (.int .i64 x.hold):=HR.out 5 _ rfl;go_wp2_with fail;clear e0;refine (Im _ _).mono ?_;rintro e w4 ⟨rfl,hb⟩;have HR4:=iH (Ab HR hb HS);have HB4:=qT HB hb;have HS4:Hid (w.heap.size<w4.heap.size):=lL HS hb.size;clear HR HB HS hb;have HR:=HR4;have HB:=HB4;have HS:=HS4;clear HR4 HB4 HS4;cases h:inR x.hold 0 1000
 ·have HC:Hid (Cd x=false):=by show _=_;simp only [Cd,h,Bool.and_false,Bool.false_and]
  clear h;go_wp2_with fail;go_ret;exact ⟨Ah HC.out.symm,HB⟩
 have H4:=iH h;clear h;have e0:w4.cell? ⟨w.heap.size,6,none⟩=some (.string x.select):=HR.out 6 _ rfl;go_wp2_with fail;clear e0;refine (Ki _ _ Z6).mono ?_;rintro e w5 ⟨rfl,hb⟩;have HR5:=iH (Ab HR hb HS);have HB5:=qT HB hb;have HS5:Hid (w.heap.size<w5.heap.size):=lL HS hb.size;clear HR HB HS hb;have HR:=HR5;have HB:=HB5;have HS:=HS5;clear HR5 HB5 HS5;cases h:decide (Bc x.select=0)
 ·have HC:Hid (Cd x=false):=by show _=_;simp only [Cd,h,Bool.and_false,Bool.false_and]
  clear h;go_wp2_with fail;go_ret;exact ⟨Ah HC.out.symm,HB⟩
 have H5:=iH h;clear h;have e0:w5.cell? ⟨w.heap.size,7,none⟩=some (.slice a7 x.likes.length c7):=HR.out 7 _ rfl;go_wp2_with fail;clear e0;refine (Vo x.likes a7 c7 lo _ (HI.out.below LikC.holds HB nL)).mono ?_;rintro e w6 ⟨rfl,hb⟩;have HR6:=iH (Ab HR hb HS);have HB6:=qT HB hb;have HS6:Hid (w.heap.size<w6.heap.size):=lL HS hb.size;clear HR HB HS hb;have HR:=HR6;have HB:=HB6;have HS:=HS6;clear HR6 HB6 HS6;cases h:Dk x.likes
 ·have HC:Hid (Cd x=false):=by show _=_;simp only [Cd,h,Bool.and_false,Bool.false_and]
  clear h;go_wp2_with fail;go_ret;exact ⟨Ah HC.out.symm,HB⟩
 have H6:=iH h;clear h;have e0:w6.cell? ⟨w.heap.size,8,none⟩=some (.int .i64 x.apart):=HR.out 8 _ rfl;go_wp2_with fail;clear e0;refine (Fp _ _ _ _).mono ?_;rintro e w7 ⟨rfl,hb⟩;have HR7:=iH (Ab HR hb HS);have HB7:=qT HB hb;have HS7:Hid (w.heap.size<w7.heap.size):=lL HS hb.size;clear HR HB HS hb;have HR:=HR7;have HB:=HB7;have HS:=HS7;clear HR7 HB7 HS7;cases h:inR x.apart 0 2
 ·have HC:Hid (Cd x=false):=by show _=_;simp only [Cd,h,Bool.and_false,Bool.false_and]
  clear h;go_wp2_with fail;go_ret;exact ⟨Ah HC.out.symm,HB⟩
 have H7:=iH h;clear h;have e0:w7.cell? ⟨w.heap.size,9,none⟩=some (.string x.near):=HR.out 9 _ rfl;go_wp2_with fail;clear e0;refine (Hs _ _ Z9).mono ?_;rintro e w8 ⟨rfl,hb⟩;have HR8:=iH (Ab HR hb HS);have HB8:=qT HB hb;have HS8:Hid (w.heap.size<w8.heap.size):=lL HS hb.size;clear HR HB HS hb;have HR:=HR8;have HB:=HB8;have HS:=HS8;clear HR8 HB8 HS8;cases h:Bq x.near
 ·have HC:Hid (Cd x=false):=by show _=_;simp only [Cd,h,Bool.and_false,Bool.false_and]
  clear h;go_wp2_with fail;go_ret;exact ⟨Ah HC.out.symm,HB⟩
 have H8:=iH h;clear h;have e0:w8.cell? ⟨w.heap.size,10,none⟩=some (.string x.fixed):=HR.out 10 _ rfl;go_wp2_with fail;clear e0;refine (Hs _ _ Z10).mono ?_;rintro e w9 ⟨rfl,hb⟩;have HR9:=iH (Ab HR hb HS);have HB9:=qT HB hb;have HS9:Hid (w.heap.size<w9.heap.size):=lL HS hb.size;clear HR HB HS hb;have HR:=HR9;have HB:=HB9;have HS:=HS9;clear HR9 HB9 HS9;cases h:Bq x.fixed
 ·have HC:Hid (Cd x=false):=by show _=_;simp only [Cd,h,Bool.and_false]
  clear h;go_wp2_with fail;go_ret;exact ⟨Ah HC.out.symm,HB⟩
 have H9:=iH h;clear h;have HC:Hid (Cd x=true):=by show _=_;simp only [Cd,H1.out,H2.out,H3.out,H4.out,H5.out,H6.out,H7.out,H8.out,H9.out,Bool.and_self]
 go_wp2_with fail;go_ret;exact ⟨Ah HC.out.symm,HB⟩
end Go.Proofs.YtihnjndnkgnmaaaGreat
