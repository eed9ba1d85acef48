import Derived.Maps.Own
import Derived.Maps.OwnSet
import Derived.Maps.Views
import Derived.Test.YtihnjndnkgnmaaaGreatDc2
import Derived.Lib.AppendZeros
import Derived.Laws.OwnMore
set_option maxHeartbeats 4000000
set_option maxRecDepth 100000
namespace Go.Proofs.YtihnjndnkgnmaaaGreat
open Go.RowKit Go.WideMaps Go.Maps
theorem En:Keyed Tryz.prog 9:=string_keyed Tryz.underlying9
theorem Gi (w:World):(zeroValue 3).run Tryz.prog w=.ok (.int .i64 0) w:=by kernel_rfl
theorem Ft {P:Program} {t k e:TypeId} (hu:P.underlying t=some (.map k e)) (q:IntKind) (n:Int) (w:World):(Instr.makeMap t (some (.int q n))).run P w=.ok (.map (some w.heap.size)) (w.alloc (.map #[] 0)):=by
 simp [Instr.makeMap,run_underlying hu,asInt,asIntOf,Result.andThen]
theorem Am {H:Type} {P:Program} {k:TypeId} {R:Value→Option (DataW H×List MemPlace)} {b n:Nat} {D:DataW H} {w w':World} {B:Nat} (h:w.ownsMap P k R b n D) (hb:Below B w w') (hB:b<B):w'.ownsMap P k R b n D:=by
 obtain ⟨es,clock,h1,h2,h3,h4⟩:=h;exact ⟨es,clock,(hb.block b hB).trans h1,h2,h3,h4⟩
def kOf (s:BA):Lit:=.string s.data.toList
def Aj (ns:List BA):Nat→DataW Unit
 | 0=>.map []
 | k+1=>match ns[k]? with
  | some s=>(Aj ns k).put (kOf s) (.lit (.int .i64 k))
  | none=>Aj ns k
theorem Fc (ns:List BA):∀ k,IsMap (Aj ns k)
 | 0=>⟨_,rfl⟩
 | k+1=>by
  unfold Aj
  split
  ·exact IsMap.put (Fc ns k) _ _
  ·exact Fc ns k
theorem Tp {s t:BA} (h:kOf s=kOf t):s=t:=by
 unfold kOf at h;injection h with h
 cases s with | mk a=>cases t with | mk b=>simp at h;simp [h]
def Asq (ns:List BA) (s:BA):Nat→Option Nat
 | 0=>none
 | k+1=>if ns[k]?=some s then some k else Asq ns s k
theorem Ku (ns:List BA) (s:BA):∀ k,has (Aj ns k) (kOf s)=(Asq ns s k).isSome
 | 0=>rfl
 | k+1=>by
  unfold Aj Asq
  cases hk:ns[k]? with
  | none=>simp;exact Ku ns s k
  | some t =>
   by_cases e:t=s
   ·subst e
    simp;exact has_put_same (Fc ns k) (show WideAt.IsKeyLit (kOf _) from trivial) _
   ·simp [e]
    rw [has_put_other (fun h=>e (Tp h).symm)];exact Ku ns s k
theorem Mv (ns:List BA) (s:BA):∀ k,(Aj ns k).atKey (kOf s) (.lit (.int .i64 0))=.lit (.int .i64 (((Asq ns s k).getD 0:Nat):Int))
 | 0=>rfl
 | k+1=>by
  unfold Aj Asq
  cases hk:ns[k]? with
  | none=>simp;exact Mv ns s k
  | some t =>
   by_cases e:t=s
   ·subst e
    simp;exact atKey_put_same (Fc ns k) (show WideAt.IsKeyLit (kOf _) from trivial) _ _
   ·simp [e]
    rw [atKey_put_other (fun h=>e (Tp h).symm)];exact Mv ns s k
theorem Di (x:Brt) (a2:OA) (c2:Nat) (w:World) :
  Calls Tryz.prog 86 #[.agg (bbA x a2 c2)] w (Rt (.string x.name) w):=by
 go_enter Tryz.func86,Tryz.ntmps86
 go_wp2
 go_ret;exact ⟨rfl,by go_grown⟩
theorem Ql (xs:List Brt) (a:OA) (cap lo:Nat) (w:World) (hin:SliceC BrtC 6 lo w a xs) (hsm:xs.length≤1048576) :
  Calls Tryz.prog 85 #[.slice a xs.length cap,.func (.func 86) #[] #[]] w fun e w'=>e=.returned (.map (some w.heap.size))∧w'.ownsMap Tryz.prog 9 (plainElem Tryz.prog 3) w.heap.size xs.length (Aj (xs.map (·.name)) xs.length)∧Below w.heap.size w w':=by
 have hmm:∀ q n w,(Instr.makeMap 128 (some (.int q n))).run Tryz.prog w=.ok (.map (some w.heap.size)) (w.alloc (.map #[] 0)):=fun q n w=>Ft Tryz.underlying128 q n w
 have HI:=iH hin;clear hin;go_enter Tryz.func85,Tryz.ntmps85;go_wp2_with fail;go_loopw [13] (fun i wr=>∃ k:Nat,k≤xs.length∧i=.int .i64 k∧wr.ownsMap Tryz.prog 9 (plainElem Tryz.prog 3) w.heap.size k (Aj (xs.map (·.name)) k)∧Below w.heap.size w wr)
  (fun i _=>xs.length - (intOf i).toNat)
 case atStart=>exact ⟨0,zL,rfl,World.ownsMap_made _ _ _ _,(Below.refl _ _).alloc nL _⟩
 case round =>
  obtain ⟨k,hk,rfl,hown,hbel⟩:=hrel;by_cases hlt:k<xs.length
  ·obtain ⟨x,hx⟩:=gX hlt
   obtain ⟨b,o,rfl,_,_,hc⟩:=(HI.out.below BrtC.holds hbel nL).at hx;obtain ⟨a2,c2,q0,q1,q2,q3,q4,q5,z0,_,_⟩:=hc;simp only [Nat.add_zero] at q0 q1 q2 q3 q4 q5;have HP:Hid (Aj (xs.map (·.name)) (k+1)=(Aj (xs.map (·.name)) k).put (kOf x.name) (.lit (.int .i64 k))):=by
    show _=_
    simp [Aj,hx]
   have hkey:keyOf Tryz.prog 9 (.string x.name)=some (kOf x.name):=keyOf_string_mk Tryz.underlying9 z0;have HO:=iH hown;have HB:=iH hbel;have hws:w.heap.size<wr.heap.size:=hown.lt;have HRA:Hid (wr.rangeAt b (o+k*6) (bbL x a2 c2)):=Aa q0 (Aa q1 (Aa q2 (Aa q3 (Aa q4 (Aa q5 (Ap _ _ _))))));clear hx hown hbel q0 q1 q2 q3 q4 q5;generalize Aj (xs.map (·.name)) k=D at *;go_upto_region 5 with (first | (refine lr Gg HRA ?_));have HR4:=ra wr (bbA x a2 c2) 45 (bbL x a2 c2);have HO4:Hid ((wr.alloc (Obj.cells (bbA x a2 c2) 45)).ownsMap Tryz.prog 9 (plainElem Tryz.prog 3) w.heap.size k D):=HO.out.alloc _;have HB4:Hid (Below w.heap.size w (wr.alloc (Obj.cells (bbA x a2 c2) 45))):=HB.out.alloc (by omega) _;generalize wr.alloc (Obj.cells (bbA x a2 c2) 45)=w4 at *;go_wp2_with (first | (refine lr Gg HR4 ?_));refine (Di x a2 c2 _).mono ?_;rintro e w5 ⟨rfl,hb5⟩;have HO5:=iH (Am HO4 hb5 HO4.out.lt);have HB5:=qT HB4 hb5;clear hb5 HO4 HB4 HR4;go_wp2_with (at_mapUpdate;refine wpList_mapUpdate_own _ rfl _ _ _ 128 rfl 9 3 En Tryz.underlying128 _ w.heap.size k _ rfl HO5 (by unfold maxLen;omega) _ _ _ rfl rfl hkey _ [] (plainElem_int Tryz.underlying3 (WalkArith.wf_i64 (by omega))) ?_;intro w6 hown6 hgrow6);have R1:=HP.out.symm▸hown6;have R2:=HB5.out.grown hgrow6 HB5.out.size (fun j hj=>by cases hj;exact Nat.le_refl _);have HR1:Hid (w6.ownsMap Tryz.prog 9 (plainElem Tryz.prog 3) w.heap.size (k+1) (Aj (xs.map (·.name)) (k+1))):=R1;clear hown6 hgrow6 R1 hkey;go_wp2_with fail;go_roundw
   case rel=>exact ⟨k+1,by omega,by go_num,HR1,R2⟩
   case measure=>simp [intOf];omega
  ·have HO:=iH hown
   clear hown;go_wp2_with fail;go_ret;have hke:k=xs.length:=by omega
   subst hke;exact ⟨rfl,HO,hbel⟩
theorem Es (x:Svc)  (w:World) :
  Calls Tryz.prog 88 #[.agg #[.string x.name,.int .i64 x.spare]] w (Rt (.string x.name) w):=by
 go_enter Tryz.func88,Tryz.ntmps88
 go_wp2
 go_ret;exact ⟨rfl,by go_grown⟩
theorem Qk (xs:List Svc) (a:OA) (cap lo:Nat) (w:World) (hin:SliceC SvcC 2 lo w a xs) (hsm:xs.length≤1048576) :
  Calls Tryz.prog 87 #[.slice a xs.length cap,.func (.func 88) #[] #[]] w fun e w'=>e=.returned (.map (some w.heap.size))∧w'.ownsMap Tryz.prog 9 (plainElem Tryz.prog 3) w.heap.size xs.length (Aj (xs.map (·.name)) xs.length)∧Below w.heap.size w w':=by
 have hmm:∀ q n w,(Instr.makeMap 128 (some (.int q n))).run Tryz.prog w=.ok (.map (some w.heap.size)) (w.alloc (.map #[] 0)):=fun q n w=>Ft Tryz.underlying128 q n w
 have HI:=iH hin;clear hin;go_enter Tryz.func87,Tryz.ntmps87;go_wp2_with fail;go_loopw [13] (fun i wr=>∃ k:Nat,k≤xs.length∧i=.int .i64 k∧wr.ownsMap Tryz.prog 9 (plainElem Tryz.prog 3) w.heap.size k (Aj (xs.map (·.name)) k)∧Below w.heap.size w wr)
  (fun i _=>xs.length - (intOf i).toNat)
 case atStart=>exact ⟨0,zL,rfl,World.ownsMap_made _ _ _ _,(Below.refl _ _).alloc nL _⟩
 case round =>
  obtain ⟨k,hk,rfl,hown,hbel⟩:=hrel;by_cases hlt:k<xs.length
  ·obtain ⟨x,hx⟩:=gX hlt
   obtain ⟨b,o,rfl,_,_,hc⟩:=(HI.out.below SvcC.holds hbel nL).at hx;obtain ⟨q0,q1,z0⟩:=hc;simp only [Nat.add_zero] at q0 q1;have HP:Hid (Aj (xs.map (·.name)) (k+1)=(Aj (xs.map (·.name)) k).put (kOf x.name) (.lit (.int .i64 k))):=by
    show _=_
    simp [Aj,hx]
   have hkey:keyOf Tryz.prog 9 (.string x.name)=some (kOf x.name):=keyOf_string_mk Tryz.underlying9 z0;have HO:=iH hown;have HB:=iH hbel;have hws:w.heap.size<wr.heap.size:=hown.lt;have HRA:Hid (wr.rangeAt b (o+k*2) [.string x.name,.int .i64 x.spare]):=Aa q0 (Aa q1 (Ap _ _ _));clear hx hown hbel q0 q1;generalize Aj (xs.map (·.name)) k=D at *;go_upto_region 5 with (first | (refine lr Ofq HRA ?_));have HR4:=ra wr #[.string x.name,.int .i64 x.spare] 94 [.string x.name,.int .i64 x.spare];have HO4:Hid ((wr.alloc (Obj.cells #[.string x.name,.int .i64 x.spare] 94)).ownsMap Tryz.prog 9 (plainElem Tryz.prog 3) w.heap.size k D):=HO.out.alloc _;have HB4:Hid (Below w.heap.size w (wr.alloc (Obj.cells #[.string x.name,.int .i64 x.spare] 94))):=HB.out.alloc (by omega) _;generalize wr.alloc (Obj.cells #[.string x.name,.int .i64 x.spare] 94)=w4 at *;go_wp2_with (first | (refine lr Ofq HR4 ?_));refine (Es x  _).mono ?_;rintro e w5 ⟨rfl,hb5⟩;have HO5:=iH (Am HO4 hb5 HO4.out.lt);have HB5:=qT HB4 hb5;clear hb5 HO4 HB4 HR4;go_wp2_with (at_mapUpdate;refine wpList_mapUpdate_own _ rfl _ _ _ 128 rfl 9 3 En Tryz.underlying128 _ w.heap.size k _ rfl HO5 (by unfold maxLen;omega) _ _ _ rfl rfl hkey _ [] (plainElem_int Tryz.underlying3 (WalkArith.wf_i64 (by omega))) ?_;intro w6 hown6 hgrow6);have R1:=HP.out.symm▸hown6;have R2:=HB5.out.grown hgrow6 HB5.out.size (fun j hj=>by cases hj;exact Nat.le_refl _);have HR1:Hid (w6.ownsMap Tryz.prog 9 (plainElem Tryz.prog 3) w.heap.size (k+1) (Aj (xs.map (·.name)) (k+1))):=R1;clear hown6 hgrow6 R1 hkey;go_wp2_with fail;go_roundw
   case rel=>exact ⟨k+1,by omega,by go_num,HR1,R2⟩
   case measure=>simp [intOf];omega
  ·have HO:=iH hown
   clear hown;go_wp2_with fail;go_ret;have hke:k=xs.length:=by omega
   subst hke;exact ⟨rfl,HO,hbel⟩
theorem Df (x:Cpy) (a7:OA) (c7:Nat) (w:World) :
  Calls Tryz.prog 90 #[.agg (ccA x a7 c7)] w (Rt (.string x.name) w):=by
 go_enter Tryz.func90,Tryz.ntmps90
 go_wp2
 go_ret;exact ⟨rfl,by go_grown⟩
theorem Qo (xs:List Cpy) (a:OA) (cap lo:Nat) (w:World) (hin:SliceC CpyC 12 lo w a xs) (hsm:xs.length≤1048576) :
  Calls Tryz.prog 89 #[.slice a xs.length cap,.func (.func 90) #[] #[]] w fun e w'=>e=.returned (.map (some w.heap.size))∧w'.ownsMap Tryz.prog 9 (plainElem Tryz.prog 3) w.heap.size xs.length (Aj (xs.map (·.name)) xs.length)∧Below w.heap.size w w':=by
 have hmm:∀ q n w,(Instr.makeMap 128 (some (.int q n))).run Tryz.prog w=.ok (.map (some w.heap.size)) (w.alloc (.map #[] 0)):=fun q n w=>Ft Tryz.underlying128 q n w
 have HI:=iH hin;clear hin;go_enter Tryz.func89,Tryz.ntmps89;go_wp2_with fail;go_loopw [13] (fun i wr=>∃ k:Nat,k≤xs.length∧i=.int .i64 k∧wr.ownsMap Tryz.prog 9 (plainElem Tryz.prog 3) w.heap.size k (Aj (xs.map (·.name)) k)∧Below w.heap.size w wr)
  (fun i _=>xs.length - (intOf i).toNat)
 case atStart=>exact ⟨0,zL,rfl,World.ownsMap_made _ _ _ _,(Below.refl _ _).alloc nL _⟩
 case round =>
  obtain ⟨k,hk,rfl,hown,hbel⟩:=hrel;by_cases hlt:k<xs.length
  ·obtain ⟨x,hx⟩:=gX hlt
   obtain ⟨b,o,rfl,_,_,hc⟩:=(HI.out.below CpyC.holds hbel nL).at hx;obtain ⟨a7,c7,q0,q1,q2,q3,q4,q5,q6,q7,q8,q9,q10,q11,z0,_,_,_,_,_,_⟩:=hc;simp only [Nat.add_zero] at q0 q1 q2 q3 q4 q5 q6 q7 q8 q9 q10 q11;have HP:Hid (Aj (xs.map (·.name)) (k+1)=(Aj (xs.map (·.name)) k).put (kOf x.name) (.lit (.int .i64 k))):=by
    show _=_
    simp [Aj,hx]
   have hkey:keyOf Tryz.prog 9 (.string x.name)=some (kOf x.name):=keyOf_string_mk Tryz.underlying9 z0;have HO:=iH hown;have HB:=iH hbel;have hws:w.heap.size<wr.heap.size:=hown.lt;have HRA:Hid (wr.rangeAt b (o+k*12) (ccL x a7 c7)):=Aa q0 (Aa q1 (Aa q2 (Aa q3 (Aa q4 (Aa q5 (Aa q6 (Aa q7 (Aa q8 (Aa q9 (Aa q10 (Aa q11 (Ap _ _ _))))))))))));clear hx hown hbel q0 q1 q2 q3 q4 q5 q6 q7 q8 q9 q10 q11;generalize Aj (xs.map (·.name)) k=D at *;go_upto_region 5 with (first | (refine lr Exq HRA ?_));have HR4:=ra wr (ccA x a7 c7) 48 (ccL x a7 c7);have HO4:Hid ((wr.alloc (Obj.cells (ccA x a7 c7) 48)).ownsMap Tryz.prog 9 (plainElem Tryz.prog 3) w.heap.size k D):=HO.out.alloc _;have HB4:Hid (Below w.heap.size w (wr.alloc (Obj.cells (ccA x a7 c7) 48))):=HB.out.alloc (by omega) _;generalize wr.alloc (Obj.cells (ccA x a7 c7) 48)=w4 at *;go_wp2_with (first | (refine lr Exq HR4 ?_));refine (Df x a7 c7 _).mono ?_;rintro e w5 ⟨rfl,hb5⟩;have HO5:=iH (Am HO4 hb5 HO4.out.lt);have HB5:=qT HB4 hb5;clear hb5 HO4 HB4 HR4;go_wp2_with (at_mapUpdate;refine wpList_mapUpdate_own _ rfl _ _ _ 128 rfl 9 3 En Tryz.underlying128 _ w.heap.size k _ rfl HO5 (by unfold maxLen;omega) _ _ _ rfl rfl hkey _ [] (plainElem_int Tryz.underlying3 (WalkArith.wf_i64 (by omega))) ?_;intro w6 hown6 hgrow6);have R1:=HP.out.symm▸hown6;have R2:=HB5.out.grown hgrow6 HB5.out.size (fun j hj=>by cases hj;exact Nat.le_refl _);have HR1:Hid (w6.ownsMap Tryz.prog 9 (plainElem Tryz.prog 3) w.heap.size (k+1) (Aj (xs.map (·.name)) (k+1))):=R1;clear hown6 hgrow6 R1 hkey;go_wp2_with fail;go_roundw
   case rel=>exact ⟨k+1,by omega,by go_num,HR1,R2⟩
   case measure=>simp [intOf];omega
  ·have HO:=iH hown
   clear hown;go_wp2_with fail;go_ret;have hke:k=xs.length:=by omega
   subst hke;exact ⟨rfl,HO,hbel⟩
end Go.Proofs.YtihnjndnkgnmaaaGreat
namespace Go.Proofs.YtihnjndnkgnmaaaGreat
open Go.RowKit
structure Iz where
 ad:OA
 len:Nat
 cap:Nat
 cs:List Value
def PartOk (n:Nat) (w:World) (p:Iz):Prop:=(p.ad=none→p.len=0)∧p.cs.length=p.len*n∧(∀ ad,p.ad=some ad→∀ j u,p.cs[j]?=some u→w.cell? (ad.add j)=some u)∧∀ u∈p.cs,u.oneCell'=true
theorem PartOk.below {n:Nat} {w w':World} {p:Iz} (h:PartOk n w p) (hb:Below w.heap.size w w'):PartOk n w' p :=
 ⟨h.1,h.2.1,fun ad e j u hj=>(hb.cell (block_lt_of_cell (h.2.2.1 ad e j u hj))).trans (h.2.2.1 ad e j u hj),h.2.2.2⟩
def Ee (ps:List Iz):Nat:=(ps.map (·.len)).sum
def Ca (ps:List Iz):List Value:=ps.flatMap (·.cs)
theorem Jv (ps:List Iz) (p:Iz):Ee (ps++[p])=Ee ps+p.len:=by simp [Ee]
theorem Np (ps:List Iz) (p:Iz):Ca (ps++[p])=Ca ps++p.cs:=by simp [Ca]
theorem Jx (ps:List Iz) (k:Nat):Ee (ps.take k)≤Ee ps:=by
 have h:=congrArg Ee (List.take_append_drop k ps);unfold Ee at *;rw [List.map_append,List.sum_append] at h;omega
theorem Se {α β:Type} {V:α→Value→List Value} {sub:α→List β} {C:Db β} {m n:Nat} {XC:Db α} {T:TypeId} {base lo:Nat} {w:World} {v:Value} {l:List α} {cs:List Value} (h1:w.ownsRow base T n v l.length cs) (hlo:lo≤base)
  (h2:∀ j x,l[j]?=some x→∃ (ae:OA) (ce:Nat),(∀ i u,(V x (.slice ae (sub x).length ce))[i]?=some u→cs[j*n+i]?=some u)∧SliceC C m lo w ae (sub x)) (hV:∀ x s,(V x s).length=n) (hm:l.length≤maxLen)
  (hX:∀ (f:Nat→Option Value) (x:α) (ae:OA) (ce:Nat),x∈l→(∀ i u,(V x (.slice ae (sub x).length ce))[i]?=some u→f i=some u)→SliceC C m lo w ae (sub x)→XC lo w f x):∃ a q,v=.slice a l.length q∧SliceC XC n lo w a l:=by
 rcases h1.2 with ⟨hv,h0⟩ | ⟨g,cap,cur,hv,hb,hg,_⟩
 ·have:l=[]:=List.length_eq_zero_iff.1 h0
  subst this;exact ⟨none,0,hv,SliceC.nil⟩
 ·refine ⟨_,cap,hv,hm,.inr ⟨g,0,rfl,⟨by omega,fun _ p=>(by rw [hv] at h1;exact h1.frozenAt p)⟩,(Array.getElem?_eq_some_iff.1 hg).1,fun j x hj=>?_⟩⟩
  have hlt:=Ae hj;obtain ⟨ae,ce,q1,q2⟩:=h2 j x hj;refine hX _ x ae ce (List.mem_of_getElem? hj) (fun i u hu=>?_) q2;have hi:i<n:=by have:=Ae hu;rwa [hV] at this
  have hj2:(j+1)*n≤l.length*n:=Nat.mul_le_mul_right n (by omega);rw [Nat.add_mul] at hj2;rw [hv] at h1;have:=h1.cellAt (j*n+i) (by omega);rw [q1 i u hu] at this;simpa using this
theorem Nl (x:Brt) (ax:OA) (cx:Nat) (s:BA) (p:Nat) (w:World) (hp:w.cell? ⟨p,0,none⟩=some (.func (.func 86) #[] #[])) :
  Calls Tryz.prog 138 #[.agg (bbA x ax cx),.string s,.pointer (some ⟨p,0,none⟩)] w (Rt (.int .i64 (Lib.compareBytes x.name.data.toList s.data.toList)) w):=by
 have hB1:Below w.heap.size w (w.alloc (Obj.cells (bbA x ax cx) 45)):=by go_grown
 have HK:=iH (Blk.alloc w (bbA x ax cx) 45);have hp1:(w.alloc (Obj.cells (bbA x ax cx) 45)).cell? ⟨p,0,none⟩=some (.func (.func 86) #[] #[]):=(hB1.cell (p:=⟨p,0,none⟩) (block_lt_of_cell hp)).trans hp;clear hp;go_enter Tryz.func138,Tryz.ntmps138;go_upto_region 1 with fail;generalize (w.alloc (Obj.cells (bbA x ax cx) 45))=w1 at *;go_wp2_with (refine lk Gg HK ?_);refine (Di x ax cx _).mono ?_;rintro e w2 ⟨rfl,hb2⟩;have hB2:=qt hB1 hb2;clear hb2 hB1 HK hp1;go_wp2_with (go_at_call 139;refine (Pu _ _ _).mono ?_;rintro e w' ⟨rfl,rfl⟩);go_ret;exact ⟨rfl,hB2⟩
theorem kX {lo:Nat} {w:World} {b o:Nat} {y:Brt} (h:BrtC lo w (fun i=>w.cell? ⟨b,o+i,none⟩) y):∃ (ay:OA) (cy:Nat),w.rangeAt b o (bbL y ay cy):=by
 obtain ⟨ay,cy,q0,q1,q2,q3,q4,q5,z0,z1,hs⟩:=h;exact ⟨ay,cy,Aa q0 (Aa q1 (Aa q2 (Aa q3 (Aa q4 (Aa q5 (Ap _ _ _))))))⟩
def lH (xs:List Brt) (s:BA) (w:World) (e:Ending) (w':World):Prop:=∃ (i:Nat) (q:Bool),e=.returned (.tuple #[.int .i64 i,.bool q])∧i≤xs.length∧(∀ (j:Nat) u,j<i→xs[j]?=some u→Lib.compareBytes u.name.data.toList s.data.toList<0)∧(∀ (j:Nat) u,i≤j→xs[j]?=some u→0≤Lib.compareBytes u.name.data.toList s.data.toList)∧(q=true↔∃ y,xs[i]?=some y∧y.name=s)∧Below w.heap.size w w'
theorem cS (xs:List Brt) (s:BA) (a:OA) (cap lo p:Nat) (w:World) (hin:SliceC BrtC 6 lo w a xs) (hsm:xs.length≤1048576) (hp:w.cell? ⟨p,0,none⟩=some (.func (.func 86) #[] #[])) (hmono:∀ (j k:Nat) u v,j≤k→xs[j]?=some u→xs[k]?=some v→Lib.compareBytes v.name.data.toList s.data.toList<0→Lib.compareBytes u.name.data.toList s.data.toList<0) :
  Calls Tryz.prog 140 #[.slice a xs.length cap,.string s,.func (.func 138) #[] #[.pointer (some ⟨p,0,none⟩)]] w fun e w'=>lH xs s w e w':=by
 have HI:=iH hin;have HM:=iH hmono;have HP:=iH hp;have hpl:p<w.heap.size:=block_lt_of_cell hp;clear hin hmono hp;go_enter Tryz.func140,Tryz.ntmps140;go_wp2_with fail;go_loopw [9,10] (fun s9 s10 wr=>∃ l h:Nat,s9=.int .i64 l∧s10=.int .i64 h∧l≤h∧h≤xs.length∧Hid (∀ (j:Nat) u,j<l→xs[j]?=some u→Lib.compareBytes u.name.data.toList s.data.toList<0)∧Hid (∀ (j:Nat) u,h≤j→xs[j]?=some u→0≤Lib.compareBytes u.name.data.toList s.data.toList)∧Below w.heap.size w wr) (fun s9 s10 _=>(intOf s10).toNat - (intOf s9).toNat)
 case atStart=>exact ⟨0,xs.length,rfl,rfl,zL,Nat.le_refl _,fun j u h=>by omega,fun j u h hx=>by have:=Ae hx;omega,Below.refl _ _⟩
 case round =>
  obtain ⟨l,h,rfl,rfl,hlh,hhn,hA,hC,hB⟩:=hrel;by_cases hlt:l<h
  ·obtain ⟨y,hy⟩:∃ y,xs[(l+h) / 2]?=some y:=⟨xs[(l+h) / 2],gE (by omega)⟩
   have hml:(l+h) / 2<xs.length:=by omega
   have hm1:l≤(l+h) / 2∧(l+h) / 2<h:=by omega
   have HWM:Hid (((l:Int)+(h:Int)) / 2=(((l+h) / 2:Nat):Int)):=by show _=_;omega
   obtain ⟨b,o,ea,_,hbl,hc⟩:=(HI.out.below BrtC.holds hB nL).at hy;subst ea;obtain ⟨ay,cy,hry⟩:=kX hc;have HRY:=iH hry;have HYY:=iH hy;clear hc hy hry;go_upto_region 5 with fail
   try rw [HWM.out]
   clear HWM;obtain ⟨hm1,hm2⟩:=hm1;have HLH:=iH hlt;generalize (l+h) / 2=m at *;have i1:(m:Int)<(xs.length:Int):=by omega
   go_wp2_with (refine lr Gg HRY ?_);refine (Nl y ay cy s p _ ((hB.cell (p:=⟨p,0,none⟩) hpl).trans HP)).mono ?_;rintro e w3 ⟨rfl,hb3⟩;have hB3:=qt hB hb3;clear hb3 hB HRY;generalize hcy:Lib.compareBytes y.name.data.toList s.data.toList=cc at *;by_cases hn:cc<0
   ·have HA2:Hid (∀ (j:Nat) u,j<m+1→xs[j]?=some u→Lib.compareBytes u.name.data.toList s.data.toList<0):=fun j u hj hu=>HM.out j m u y (by omega) hu HYY (by rw [hcy];exact hn)
    clear hcy hA;go_wp2_with fail;go_roundw
    case rel=>exact ⟨m+1,h,by go_num,rfl,by omega,hhn,HA2,hC,hB3⟩
    case measure=>simp [intOf];omega
   ·have hn0:0≤cc:=by omega
    have HC2:Hid (∀ (j:Nat) u,m≤j→xs[j]?=some u→0≤Lib.compareBytes u.name.data.toList s.data.toList):=fun j u hj hu=>by
     by_cases h9:Lib.compareBytes u.name.data.toList s.data.toList<0
     ·have:=HM.out m j y u hj HYY hu h9
      omega
     ·omega
    have hn1:decide (cc<0)=false:=by simpa using hn
    clear hcy hn hC;go_wp2_with fail;go_roundw
    case rel=>exact ⟨l,m,rfl,rfl,by omega,by omega,hA,HC2,hB3⟩
    case measure=>simp [intOf];omega
  ·obtain rfl:l=h:=by omega
   by_cases hn:l<xs.length
   ·obtain ⟨y,hy⟩:=gX hn
    obtain ⟨b,o,ea,_,hbl,hc⟩:=(HI.out.below BrtC.holds hB nL).at hy;subst ea;have HYY:=iH hy;obtain ⟨ay,cy,q0,q1,q2,q3,q4,q5,z0,z1,hs⟩:=hc;simp only [Nat.add_zero] at q0;clear hy;have i1:(l:Int)<(xs.length:Int):=by omega
    go_wp2_with fail;refine (Nl y ay cy s p _ ((hB.cell (p:=⟨p,0,none⟩) hpl).trans HP)).mono ?_;rintro e w3 ⟨rfl,hb3⟩;have hB3:=qt hB hb3;have HEQ:Hid ((Lib.compareBytes y.name.data.toList s.data.toList == 0)=true↔∃ y,xs[l]?=some y∧y.name=s):=by
     show _↔_
     rw [beq_iff_eq,← aL,HYY.out];exact ⟨fun h=>⟨_,rfl,h⟩,fun ⟨_,h1,h2⟩=>by cases h1;exact h2⟩
    clear hb3 hB q0 q1 q2 q3 q4 q5;go_wp2_with fail;exact bodyPost_ret (results_tmp2 rfl _ _ _) rfl ⟨l,_,rfl,hhn,hA.out,hC.out,by first | exact HEQ.out | simpa using HEQ.out,hB3⟩
   ·have i1:¬ (l:Int)<(xs.length:Int):=by omega
    have HNO:Hid (xs[l]?=none):=List.getElem?_eq_none (by omega);go_wp2_with fail;exact bodyPost_ret (results_tmp2 rfl _ _ _) rfl ⟨l,_,rfl,hhn,hA.out,hC.out,by simp [HNO.out],hB⟩
theorem Wz (n:Nat) (w:World) (h9:n≤1000) :
  Calls Tryz.prog 154 #[.slice none 0 0,.int .i64 ((n:Nat):Int)] w fun e w'=>∃ v,e=.returned v∧w'.ownsRow w.heap.size 45 6 v 0 []∧Below w.heap.size w w':=by
 by_cases h0:0<n
 ·obtain ⟨i0,hi,hz0,hz1,hz2⟩:=info_parts Ge
  have hrz:∀ ty,(Builtin.append_ #[37,3] ty #[.slice none 0 0,.int .i64 ((n:Nat):Int)]).run Tryz.prog w=.ok (.slice (some ⟨w.heap.size,0,none⟩) n (grownCap w n 0 45)) (w.drew.alloc (.cells (Builtin.zeroCells (Value.cells (.agg yyA)) n++Builtin.zeroCells (Value.cells (.agg yyA)) (grownCap w n 0 45 - n)) 45)):=fun ty =>
   Lib.run_append_nil_zeros w 37 3 ty 45 i0 _ .i64 .i64 Tryz.underlying37 Tryz.underlying3 hi hz0 n h0 (by rw [hz1];omega) (by omega) (by rw [hz2];omega)
  obtain ⟨G,hG⟩:∃ G,G=grownCap w n 0 45:=⟨_,rfl⟩;rw [← hG] at hrz;obtain ⟨ROW,hROW⟩:∃ ROW:Array Value,ROW=Builtin.zeroCells (Value.cells (.agg yyA)) n++Builtin.zeroCells (Value.cells (.agg yyA)) (G - n):=⟨_,rfl⟩;rw [← hROW] at hrz;have hGn:n≤G:=by rw [hG];exact grownCap_ge w _ _ _
  have hGm:G≤maxLen:=by rw [hG];exact grownCap_le_maxLen w _ _ _ (by unfold maxLen;omega)
  have HRS:Hid (ROW.size=G*6):=by
   show _=_
   rw [hROW,Array.size_append,size_zeroCells,size_zeroCells];simp [Value.cells];omega
  have HGM:=iH hGm;have hG63:G≤9223372036854775807:=by unfold maxLen at hGm;omega
  clear hG hROW hi hz0 hz1 hz2 hGm;go_enter Tryz.func154,Tryz.ntmps154;go_wp2_with (at_builtin;refine Lib.wpList_append_run _ rfl _ _ _ _ rfl _ _ rfl rfl _ _ (hrz _) ?_);go_ret;exact ⟨_,rfl,World.ownsRow_made w.drew ROW G nL HGM HRS,((Below.refl _ w).drew).alloc nL _⟩
 ·obtain rfl:n=0:=by omega
  go_enter Tryz.func154,Tryz.ntmps154;go_wp2_with fail;go_ret;exact ⟨_,rfl,World.ownsRow_nil _ _ _ _,Below.refl _ _⟩
theorem Kx (ps:List Iz) (p K:Nat) (w:World) (hK:ps.length=K) (h3:K≤3) (hps:∀ k x,ps[k]?=some x→PartOk 6 w x∧w.cell? ⟨p,k,none⟩=some (.slice x.ad x.len x.cap)) (hpl:p<w.heap.size) (hsm:Ee ps≤1000) :
  Calls Tryz.prog 141 #[.slice (some ⟨p,0,none⟩) K K] w fun e w'=>∃ v,e=.returned v∧w'.ownsRow w.heap.size 45 6 v (Ee ps) (Ca ps)∧Below w.heap.size w w':=by
 obtain ⟨i0,hi,hz0,hz1,hz2⟩:=info_parts Ge;have HI0:=iH hi;have HP:=iH hps;have HKK:=iH hK;clear hps hK hi;go_enter Tryz.func141,Tryz.ntmps141;go_wp2_with fail;go_loopw [3,11] (fun s i wr=>∃ k m:Nat,k≤K∧i=.int .i64 ((k:Nat):Int)∧s=.int .i64 ((m:Nat):Int)∧m≤1000∧Hid (m=Ee (ps.take k))∧Below w.heap.size w wr) (fun _ i _=>K - (intOf i).toNat)
 case atStart=>exact ⟨0,0,zL,rfl,rfl,zL,rfl,Below.refl _ _⟩
 case round =>
  obtain ⟨k,m,hk,rfl,rfl,hm,HM,hB⟩:=hrel;by_cases hlt:k<K
  ·obtain ⟨x,hx⟩:∃ x,ps[k]?=some x:=⟨ps[k]'(by have:=HKK.out;omega),gE _⟩
   have kc:wr.cell? ⟨p,k,none⟩=some (.slice x.ad x.len x.cap):=(hB.cell (p:=⟨p,k,none⟩) hpl).trans (HP k x hx).2;have HS:Hid (m+x.len=Ee (ps.take (k+1))):=by
    show _=_
    rw [Dv hx,Jv,HM.out]
   have hs9:m+x.len≤1000:=by have h9:=HS.out;have h8:=Jx ps (k+1);omega
   have hn0:¬ ((m:Nat):Int)+((x.len:Nat):Int)<0:=by omega
   have i1:(k:Int)<(K:Int):=by omega
   clear hx HM;generalize x.len=xl at *;go_wp2_with fail;go_roundw
   case rel=>exact ⟨k+1,m+xl,by omega,by go_num,by first | rfl | go_num,by omega,HS,hB⟩
   case measure=>simp [intOf];omega
  have hke:k=K:=by omega
  subst hke;have HM2:Hid (m=Ee ps):=by
   have h9:=HM.out;rw [List.take_of_length_le (by have:=HKK.out;omega)] at h9;exact h9
  have i1:¬ (k:Int)<(k:Int):=by omega
  go_upto_region 10 with (go_at_call 154;refine (Wz m _ hm).mono ?_;rintro e w2 ⟨v0,rfl,hO,hb2⟩;have HO2:=iH hO;have hB2:=qt hB hb2;have HL2:Hid (w2.ownsRow w.heap.size 45 6 v0 0 []):=Ct HO2 hB.size;clear hO HO2 hb2);clear hB HM hlt hk i1;go_wp2_with fail;go_loopw [6,27] (fun vx i wq=>∃ (j l:Nat) (v:Value),j≤k∧i=.int .i64 ((j:Nat):Int)∧vx=v∧l≤1000∧Hid (l=Ee (ps.take j))∧Hid (wq.ownsRow w.heap.size 45 6 v l (Ca (ps.take j)))∧Below w.heap.size w wq) (fun _ i _=>k - (intOf i).toNat)
  case atStart=>exact ⟨0,0,_,zL,rfl,rfl,zL,rfl,HL2,hB2⟩
  case round =>
   clear HL2 hB2;obtain ⟨j,l,v,hj,rfl,rfl,hl9,HL,HO,hB⟩:=hrel;by_cases hlt:j<k
   ·obtain ⟨x,hx⟩:∃ x,ps[j]?=some x:=⟨ps[j]'(by have:=HKK.out;omega),gE _⟩
    have kc:wr.cell? ⟨p,j,none⟩=some (.slice x.ad x.len x.cap):=(hB.cell (p:=⟨p,j,none⟩) hpl).trans (HP j x hx).2;have HQ:=iH ((HP j x hx).1.below hB);have HS:Hid (l+x.len=Ee (ps.take (j+1))):=by
     show _=_
     rw [Dv hx,Jv,HL.out]
    have HT:Hid (Ca (ps.take (j+1))=Ca (ps.take j)++x.cs):=by
     show _=_
     rw [Dv hx,Np]
    have hs9:l+x.len≤1000:=by have h9:=HS.out;have h8:=Jx ps (j+1);omega
    have i1:(j:Int)<(k:Int):=by omega
    clear hx HL;go_wp2_with (at_builtin;refine Eo rfl _ _ 37 rfl w.heap.size 45 i0 _ 6 80 Tryz.underlying37 HI0 hz0 hz1 hz2 rfl (by decide) _ _ _ rfl HO x.ad x.len x.cap x.cs rfl HQ.out.1 HQ.out.2.1 HQ.out.2.2.1 HQ.out.2.2.2 (by unfold maxLen;omega) (by omega) hB.size ?_;intro v' w5 hown hgrow hnil);have HO5:Hid (w5.ownsRow w.heap.size 45 6 v' (l+x.len) (Ca (ps.take (j+1)))):=by
     show World.ownsRow _ _ _ _ _ _ _
     rw [HT.out];exact hown
    have hB5:Below w.heap.size w w5:=hB.grown hgrow hB.size (by intro b hb;exact (HO.out.lt b hb).1);clear hown hgrow hnil HQ HT HO;go_roundw
    case rel=>exact ⟨j+1,l+x.len,_,by omega,by go_num,rfl,hs9,HS,HO5,hB5⟩
    case measure=>simp [intOf];omega
   ·have hje:j=k:=by omega
    subst hje;have i1:¬ (j:Int)<(j:Int):=by omega
    have hT:ps.take j=ps:=List.take_of_length_le (by have:=HKK.out;omega);have HO9:=HO.out;rw [HL.out,hT] at HO9;replace HO9:=iH HO9;clear hT HO HL;go_wp2_with fail;go_ret;exact ⟨_,rfl,HO9,hB⟩
theorem Nc (x:Cpy) (ax:OA) (cx:Nat) (s:BA) (p:Nat) (w:World) (hp:w.cell? ⟨p,0,none⟩=some (.func (.func 90) #[] #[])) :
  Calls Tryz.prog 142 #[.agg (ccA x ax cx),.string s,.pointer (some ⟨p,0,none⟩)] w (Rt (.int .i64 (Lib.compareBytes x.name.data.toList s.data.toList)) w):=by
 have hB1:Below w.heap.size w (w.alloc (Obj.cells (ccA x ax cx) 48)):=by go_grown
 have HK:=iH (Blk.alloc w (ccA x ax cx) 48);have hp1:(w.alloc (Obj.cells (ccA x ax cx) 48)).cell? ⟨p,0,none⟩=some (.func (.func 90) #[] #[]):=(hB1.cell (p:=⟨p,0,none⟩) (block_lt_of_cell hp)).trans hp;clear hp;go_enter Tryz.func142,Tryz.ntmps142;go_upto_region 1 with fail;generalize (w.alloc (Obj.cells (ccA x ax cx) 48))=w1 at *;go_wp2_with (refine lk Exq HK ?_);refine (Df x ax cx _).mono ?_;rintro e w2 ⟨rfl,hb2⟩;have hB2:=qt hB1 hb2;clear hb2 hB1 HK hp1;go_wp2_with (go_at_call 139;refine (Pu _ _ _).mono ?_;rintro e w' ⟨rfl,rfl⟩);go_ret;exact ⟨rfl,hB2⟩
theorem kZ {lo:Nat} {w:World} {b o:Nat} {y:Cpy} (h:CpyC lo w (fun i=>w.cell? ⟨b,o+i,none⟩) y):∃ (ay:OA) (cy:Nat),w.rangeAt b o (ccL y ay cy):=by
 obtain ⟨ay,cy,q0,q1,q2,q3,q4,q5,q6,q7,q8,q9,q10,q11,z0,z1,z6,z9,z10,z11,hs⟩:=h;exact ⟨ay,cy,Aa q0 (Aa q1 (Aa q2 (Aa q3 (Aa q4 (Aa q5 (Aa q6 (Aa q7 (Aa q8 (Aa q9 (Aa q10 (Aa q11 (Ap _ _ _))))))))))))⟩
def lP (xs:List Cpy) (s:BA) (w:World) (e:Ending) (w':World):Prop:=∃ (i:Nat) (q:Bool),e=.returned (.tuple #[.int .i64 i,.bool q])∧i≤xs.length∧(∀ (j:Nat) u,j<i→xs[j]?=some u→Lib.compareBytes u.name.data.toList s.data.toList<0)∧(∀ (j:Nat) u,i≤j→xs[j]?=some u→0≤Lib.compareBytes u.name.data.toList s.data.toList)∧(q=true↔∃ y,xs[i]?=some y∧y.name=s)∧Below w.heap.size w w'
theorem cZ (xs:List Cpy) (s:BA) (a:OA) (cap lo p:Nat) (w:World) (hin:SliceC CpyC 12 lo w a xs) (hsm:xs.length≤1048576) (hp:w.cell? ⟨p,0,none⟩=some (.func (.func 90) #[] #[])) (hmono:∀ (j k:Nat) u v,j≤k→xs[j]?=some u→xs[k]?=some v→Lib.compareBytes v.name.data.toList s.data.toList<0→Lib.compareBytes u.name.data.toList s.data.toList<0) :
  Calls Tryz.prog 143 #[.slice a xs.length cap,.string s,.func (.func 142) #[] #[.pointer (some ⟨p,0,none⟩)]] w fun e w'=>lP xs s w e w':=by
 have HI:=iH hin;have HM:=iH hmono;have HP:=iH hp;have hpl:p<w.heap.size:=block_lt_of_cell hp;clear hin hmono hp;go_enter Tryz.func143,Tryz.ntmps143;go_wp2_with fail;go_loopw [9,10] (fun s9 s10 wr=>∃ l h:Nat,s9=.int .i64 l∧s10=.int .i64 h∧l≤h∧h≤xs.length∧Hid (∀ (j:Nat) u,j<l→xs[j]?=some u→Lib.compareBytes u.name.data.toList s.data.toList<0)∧Hid (∀ (j:Nat) u,h≤j→xs[j]?=some u→0≤Lib.compareBytes u.name.data.toList s.data.toList)∧Below w.heap.size w wr) (fun s9 s10 _=>(intOf s10).toNat - (intOf s9).toNat)
 case atStart=>exact ⟨0,xs.length,rfl,rfl,zL,Nat.le_refl _,fun j u h=>by omega,fun j u h hx=>by have:=Ae hx;omega,Below.refl _ _⟩
 case round =>
  obtain ⟨l,h,rfl,rfl,hlh,hhn,hA,hC,hB⟩:=hrel;by_cases hlt:l<h
  ·obtain ⟨y,hy⟩:∃ y,xs[(l+h) / 2]?=some y:=⟨xs[(l+h) / 2],gE (by omega)⟩
   have hml:(l+h) / 2<xs.length:=by omega
   have hm1:l≤(l+h) / 2∧(l+h) / 2<h:=by omega
   have HWM:Hid (((l:Int)+(h:Int)) / 2=(((l+h) / 2:Nat):Int)):=by show _=_;omega
   obtain ⟨b,o,ea,_,hbl,hc⟩:=(HI.out.below CpyC.holds hB nL).at hy;subst ea;obtain ⟨ay,cy,hry⟩:=kZ hc;have HRY:=iH hry;have HYY:=iH hy;clear hc hy hry;go_upto_region 5 with fail
   try rw [HWM.out]
   clear HWM;obtain ⟨hm1,hm2⟩:=hm1;have HLH:=iH hlt;generalize (l+h) / 2=m at *;have i1:(m:Int)<(xs.length:Int):=by omega
   go_wp2_with (refine lr Exq HRY ?_);refine (Nc y ay cy s p _ ((hB.cell (p:=⟨p,0,none⟩) hpl).trans HP)).mono ?_;rintro e w3 ⟨rfl,hb3⟩;have hB3:=qt hB hb3;clear hb3 hB HRY;generalize hcy:Lib.compareBytes y.name.data.toList s.data.toList=cc at *;by_cases hn:cc<0
   ·have HA2:Hid (∀ (j:Nat) u,j<m+1→xs[j]?=some u→Lib.compareBytes u.name.data.toList s.data.toList<0):=fun j u hj hu=>HM.out j m u y (by omega) hu HYY (by rw [hcy];exact hn)
    clear hcy hA;go_wp2_with fail;go_roundw
    case rel=>exact ⟨m+1,h,by go_num,rfl,by omega,hhn,HA2,hC,hB3⟩
    case measure=>simp [intOf];omega
   ·have hn0:0≤cc:=by omega
    have HC2:Hid (∀ (j:Nat) u,m≤j→xs[j]?=some u→0≤Lib.compareBytes u.name.data.toList s.data.toList):=fun j u hj hu=>by
     by_cases h9:Lib.compareBytes u.name.data.toList s.data.toList<0
     ·have:=HM.out m j y u hj HYY hu h9
      omega
     ·omega
    have hn1:decide (cc<0)=false:=by simpa using hn
    clear hcy hn hC;go_wp2_with fail;go_roundw
    case rel=>exact ⟨l,m,rfl,rfl,by omega,by omega,hA,HC2,hB3⟩
    case measure=>simp [intOf];omega
  ·obtain rfl:l=h:=by omega
   by_cases hn:l<xs.length
   ·obtain ⟨y,hy⟩:=gX hn
    obtain ⟨b,o,ea,_,hbl,hc⟩:=(HI.out.below CpyC.holds hB nL).at hy;subst ea;have HYY:=iH hy;obtain ⟨ay,cy,q0,q1,q2,q3,q4,q5,q6,q7,q8,q9,q10,q11,z0,z1,z6,z9,z10,z11,hs⟩:=hc;simp only [Nat.add_zero] at q0;clear hy;have i1:(l:Int)<(xs.length:Int):=by omega
    go_wp2_with fail;refine (Nc y ay cy s p _ ((hB.cell (p:=⟨p,0,none⟩) hpl).trans HP)).mono ?_;rintro e w3 ⟨rfl,hb3⟩;have hB3:=qt hB hb3;have HEQ:Hid ((Lib.compareBytes y.name.data.toList s.data.toList == 0)=true↔∃ y,xs[l]?=some y∧y.name=s):=by
     show _↔_
     rw [beq_iff_eq,← aL,HYY.out];exact ⟨fun h=>⟨_,rfl,h⟩,fun ⟨_,h1,h2⟩=>by cases h1;exact h2⟩
    clear hb3 hB q0 q1 q2 q3 q4 q5 q6 q7 q8 q9 q10 q11;go_wp2_with fail;exact bodyPost_ret (results_tmp2 rfl _ _ _) rfl ⟨l,_,rfl,hhn,hA.out,hC.out,by first | exact HEQ.out | simpa using HEQ.out,hB3⟩
   ·have i1:¬ (l:Int)<(xs.length:Int):=by omega
    have HNO:Hid (xs[l]?=none):=List.getElem?_eq_none (by omega);go_wp2_with fail;exact bodyPost_ret (results_tmp2 rfl _ _ _) rfl ⟨l,_,rfl,hhn,hA.out,hC.out,by simp [HNO.out],hB⟩
theorem Uz (n:Nat) (w:World) (h9:n≤1000) :
  Calls Tryz.prog 155 #[.slice none 0 0,.int .i64 ((n:Nat):Int)] w fun e w'=>∃ v,e=.returned v∧w'.ownsRow w.heap.size 48 12 v 0 []∧Below w.heap.size w w':=by
 by_cases h0:0<n
 ·obtain ⟨i0,hi,hz0,hz1,hz2⟩:=info_parts Fq
  have hrz:∀ ty,(Builtin.append_ #[39,3] ty #[.slice none 0 0,.int .i64 ((n:Nat):Int)]).run Tryz.prog w=.ok (.slice (some ⟨w.heap.size,0,none⟩) n (grownCap w n 0 48)) (w.drew.alloc (.cells (Builtin.zeroCells (Value.cells (.agg xxA)) n++Builtin.zeroCells (Value.cells (.agg xxA)) (grownCap w n 0 48 - n)) 48)):=fun ty =>
   Lib.run_append_nil_zeros w 39 3 ty 48 i0 _ .i64 .i64 Tryz.underlying39 Tryz.underlying3 hi hz0 n h0 (by rw [hz1];omega) (by omega) (by rw [hz2];omega)
  obtain ⟨G,hG⟩:∃ G,G=grownCap w n 0 48:=⟨_,rfl⟩;rw [← hG] at hrz;obtain ⟨ROW,hROW⟩:∃ ROW:Array Value,ROW=Builtin.zeroCells (Value.cells (.agg xxA)) n++Builtin.zeroCells (Value.cells (.agg xxA)) (G - n):=⟨_,rfl⟩;rw [← hROW] at hrz;have hGn:n≤G:=by rw [hG];exact grownCap_ge w _ _ _
  have hGm:G≤maxLen:=by rw [hG];exact grownCap_le_maxLen w _ _ _ (by unfold maxLen;omega)
  have HRS:Hid (ROW.size=G*12):=by
   show _=_
   rw [hROW,Array.size_append,size_zeroCells,size_zeroCells];simp [Value.cells];omega
  have HGM:=iH hGm;have hG63:G≤9223372036854775807:=by unfold maxLen at hGm;omega
  clear hG hROW hi hz0 hz1 hz2 hGm;go_enter Tryz.func155,Tryz.ntmps155;go_wp2_with (at_builtin;refine Lib.wpList_append_run _ rfl _ _ _ _ rfl _ _ rfl rfl _ _ (hrz _) ?_);go_ret;exact ⟨_,rfl,World.ownsRow_made w.drew ROW G nL HGM HRS,((Below.refl _ w).drew).alloc nL _⟩
 ·obtain rfl:n=0:=by omega
  go_enter Tryz.func155,Tryz.ntmps155;go_wp2_with fail;go_ret;exact ⟨_,rfl,World.ownsRow_nil _ _ _ _,Below.refl _ _⟩
theorem Kt (ps:List Iz) (p K:Nat) (w:World) (hK:ps.length=K) (h3:K≤3) (hps:∀ k x,ps[k]?=some x→PartOk 12 w x∧w.cell? ⟨p,k,none⟩=some (.slice x.ad x.len x.cap)) (hpl:p<w.heap.size) (hsm:Ee ps≤1000) :
  Calls Tryz.prog 144 #[.slice (some ⟨p,0,none⟩) K K] w fun e w'=>∃ v,e=.returned v∧w'.ownsRow w.heap.size 48 12 v (Ee ps) (Ca ps)∧Below w.heap.size w w':=by
 obtain ⟨i0,hi,hz0,hz1,hz2⟩:=info_parts Fq;have HI0:=iH hi;have HP:=iH hps;have HKK:=iH hK;clear hps hK hi;go_enter Tryz.func144,Tryz.ntmps144;go_wp2_with fail;go_loopw [3,11] (fun s i wr=>∃ k m:Nat,k≤K∧i=.int .i64 ((k:Nat):Int)∧s=.int .i64 ((m:Nat):Int)∧m≤1000∧Hid (m=Ee (ps.take k))∧Below w.heap.size w wr) (fun _ i _=>K - (intOf i).toNat)
 case atStart=>exact ⟨0,0,zL,rfl,rfl,zL,rfl,Below.refl _ _⟩
 case round =>
  obtain ⟨k,m,hk,rfl,rfl,hm,HM,hB⟩:=hrel;by_cases hlt:k<K
  ·obtain ⟨x,hx⟩:∃ x,ps[k]?=some x:=⟨ps[k]'(by have:=HKK.out;omega),gE _⟩
   have kc:wr.cell? ⟨p,k,none⟩=some (.slice x.ad x.len x.cap):=(hB.cell (p:=⟨p,k,none⟩) hpl).trans (HP k x hx).2;have HS:Hid (m+x.len=Ee (ps.take (k+1))):=by
    show _=_
    rw [Dv hx,Jv,HM.out]
   have hs9:m+x.len≤1000:=by have h9:=HS.out;have h8:=Jx ps (k+1);omega
   have hn0:¬ ((m:Nat):Int)+((x.len:Nat):Int)<0:=by omega
   have i1:(k:Int)<(K:Int):=by omega
   clear hx HM;generalize x.len=xl at *;go_wp2_with fail;go_roundw
   case rel=>exact ⟨k+1,m+xl,by omega,by go_num,by first | rfl | go_num,by omega,HS,hB⟩
   case measure=>simp [intOf];omega
  have hke:k=K:=by omega
  subst hke;have HM2:Hid (m=Ee ps):=by
   have h9:=HM.out;rw [List.take_of_length_le (by have:=HKK.out;omega)] at h9;exact h9
  have i1:¬ (k:Int)<(k:Int):=by omega
  go_upto_region 10 with (go_at_call 155;refine (Uz m _ hm).mono ?_;rintro e w2 ⟨v0,rfl,hO,hb2⟩;have HO2:=iH hO;have hB2:=qt hB hb2;have HL2:Hid (w2.ownsRow w.heap.size 48 12 v0 0 []):=Ct HO2 hB.size;clear hO HO2 hb2);clear hB HM hlt hk i1;go_wp2_with fail;go_loopw [6,27] (fun vx i wq=>∃ (j l:Nat) (v:Value),j≤k∧i=.int .i64 ((j:Nat):Int)∧vx=v∧l≤1000∧Hid (l=Ee (ps.take j))∧Hid (wq.ownsRow w.heap.size 48 12 v l (Ca (ps.take j)))∧Below w.heap.size w wq) (fun _ i _=>k - (intOf i).toNat)
  case atStart=>exact ⟨0,0,_,zL,rfl,rfl,zL,rfl,HL2,hB2⟩
  case round =>
   clear HL2 hB2;obtain ⟨j,l,v,hj,rfl,rfl,hl9,HL,HO,hB⟩:=hrel;by_cases hlt:j<k
   ·obtain ⟨x,hx⟩:∃ x,ps[j]?=some x:=⟨ps[j]'(by have:=HKK.out;omega),gE _⟩
    have kc:wr.cell? ⟨p,j,none⟩=some (.slice x.ad x.len x.cap):=(hB.cell (p:=⟨p,j,none⟩) hpl).trans (HP j x hx).2;have HQ:=iH ((HP j x hx).1.below hB);have HS:Hid (l+x.len=Ee (ps.take (j+1))):=by
     show _=_
     rw [Dv hx,Jv,HL.out]
    have HT:Hid (Ca (ps.take (j+1))=Ca (ps.take j)++x.cs):=by
     show _=_
     rw [Dv hx,Np]
    have hs9:l+x.len≤1000:=by have h9:=HS.out;have h8:=Jx ps (j+1);omega
    have i1:(j:Int)<(k:Int):=by omega
    clear hx HL;go_wp2_with (at_builtin;refine Eo rfl _ _ 39 rfl w.heap.size 48 i0 _ 12 160 Tryz.underlying39 HI0 hz0 hz1 hz2 rfl (by decide) _ _ _ rfl HO x.ad x.len x.cap x.cs rfl HQ.out.1 HQ.out.2.1 HQ.out.2.2.1 HQ.out.2.2.2 (by unfold maxLen;omega) (by omega) hB.size ?_;intro v' w5 hown hgrow hnil);have HO5:Hid (w5.ownsRow w.heap.size 48 12 v' (l+x.len) (Ca (ps.take (j+1)))):=by
     show World.ownsRow _ _ _ _ _ _ _
     rw [HT.out];exact hown
    have hB5:Below w.heap.size w w5:=hB.grown hgrow hB.size (by intro b hb;exact (HO.out.lt b hb).1);clear hown hgrow hnil HQ HT HO;go_roundw
    case rel=>exact ⟨j+1,l+x.len,_,by omega,by go_num,rfl,hs9,HS,HO5,hB5⟩
    case measure=>simp [intOf];omega
   ·have hje:j=k:=by omega
    subst hje;have i1:¬ (j:Int)<(j:Int):=by omega
    have hT:ps.take j=ps:=List.take_of_length_le (by have:=HKK.out;omega);have HO9:=HO.out;rw [HL.out,hT] at HO9;replace HO9:=iH HO9;clear hT HO HL;go_wp2_with fail;go_ret;exact ⟨_,rfl,HO9,hB⟩
end Go.Proofs.YtihnjndnkgnmaaaGreat
