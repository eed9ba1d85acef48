import Derived.Test.YtkiloaiffopllaaGreatJ9
import Derived.Sort.KeysCollected
import Derived.Sort.Walk0
import Derived.Maps.Own
import Derived.Maps.OwnSet
import Derived.Maps.Views
import Derived.Maps.OwnOps
set_option maxHeartbeats 4000000
set_option maxRecDepth 100000
namespace Go.Proofs.YtkiloaiffopllaaGreat
open Go.RowKit Go.Maps Go.Sort
theorem Qq {ns:List BA}:∀ n,Aw ns n=true→∀ k,k<n→Hj ns k=true
 | 0,_,k,hk=>absurd hk (Nat.not_lt_zero _)
 | n+1,h,k,hk=>by
  simp only [Aw,Bool.and_eq_true] at h;by_cases e:k=n
  ·subst e;exact h.2
  ·exact Qq n h.1 k (by omega)
theorem Rz {ns:List BA} (h:Aw ns ns.length=true) (k:Nat) (hk:k+1<ns.length):(ns[k]'(by omega)).toList<(ns[k+1]).toList:=by
 have h1:=Qq _ h (k+1) hk;rw [Eo (s:=ns[k]'(by omega)) (t:=ns[k+1]) (gE (by omega)) (gE hk),bytesLess_eq] at h1;exact of_decide_eq_true h1
theorem Vu {ns:List BA} (h:Aw ns ns.length=true):∀ (d i:Nat) (hi:i+d+1<ns.length),(ns[i]'(by omega)).toList<(ns[i+d+1]).toList
 | 0,i,hi=>Rz h i hi
 | d+1,i,hi=>List.lt_trans (Vu h d i (by omega)) (Rz h (i+d+1) hi)
def nmL (ns:List BA):List (List UInt8):=ns.map (fun s=>s.toList)
theorem Uc {ns:List BA} (h:Aw ns ns.length=true):(nmL ns).Pairwise (·<·):=by
 unfold nmL;rw [List.pairwise_map,List.pairwise_iff_getElem];intro i j hi hj hij;have:=Vu h (j - i - 1) i (by omega);simp only [show i+(j - i - 1)+1=j by omega] at this;exact this
theorem Ki {ns:List BA} (h:Aw ns ns.length=true):(nmL ns).Nodup :=
 (Uc h).imp (fun hl e=>by subst e;exact absurd hl (List.lt_irrefl _))
theorem Nb {ns:List BA} (h:Aw ns ns.length=true) {ss:List (List UInt8)} (hp:ss.Perm (nmL ns)):ss.mergeSort (fun x y=>decide (x≤y))=nmL ns:=by
 have h1:=mergeSort_of_perm hp;have h2:(nmL ns).mergeSort leB=nmL ns:=List.mergeSort_of_pairwise ((Uc h).imp (fun hl=>decide_eq_true (List.le_of_lt hl)));exact h1.trans h2
theorem Om {H:Type} {P:Program} {k:TypeId} {R:Value→Option (DataW H×List MemPlace)} {w:World} {b n:Nat} {D0:DataW H} (hown:w.ownsMap P k R b n D0) (K:Keyed P k) (hk:P.underlying k=some .string) {ns:List BA} (h:Aw ns ns.length=true) (hm:∀ x,x∈nmL ns↔has D0 (.string x)=true):(nmL ns).Perm (strKeys D0) :=
 Collected.perm (left:=fun _=>false) ⟨Ki h,fun x=>by rw [hm x];simp⟩ hown K hk (fun _=>rfl)
end Go.Proofs.YtkiloaiffopllaaGreat
namespace Go.Proofs.YtkiloaiffopllaaGreat
open Go.RowKit
structure Aks where
 hold:BA
 copy:BA
 first:Int
 at_:Int
abbrev aaL (x:Aks):List Value:=[.string x.hold,.string x.copy,.int .i64 x.first,.int .i64 x.at_]
abbrev aaA (x:Aks):Array Value:=#[.string x.hold,.string x.copy,.int .i64 x.first,.int .i64 x.at_]
abbrev AaL:List Value:=[.string ⟨#[]⟩,.string ⟨#[]⟩,.int .i64 0,.int .i64 0]
abbrev AaA:Array Value:=#[.string ⟨#[]⟩,.string ⟨#[]⟩,.int .i64 0,.int .i64 0]
def Cq (x:Aks):Nat:=x.hold.size+x.copy.size
def AksC:Fv Aks:=fun _ _ f x=>f 0=some (.string x.hold)∧f 1=some (.string x.copy)∧f 2=some (.int .i64 x.first)∧f 3=some (.int .i64 x.at_)∧x.hold.size≤maxLen∧x.copy.size≤maxLen
theorem AksC.holds:Gc AksC 4:=by
 rintro lo lo' w w' f g x h _ _ ⟨q0,q1,q2,q3,z0,z1⟩;exact ⟨(h 0 (by omega)).trans q0,(h 1 (by omega)).trans q1,(h 2 (by omega)).trans q2,(h 3 (by omega)).trans q3,z0,z1⟩
theorem Xi (x:Aks)  (L:Int) (w:World) (z0:x.hold.size≤maxLen) (z1:x.copy.size≤maxLen)  (h0:0≤L) (h1:L≤1048576) :
  Calls Tryz.prog 50 #[.agg (aaA x),.int .i64 L] w (Rt (.int .i64 (szR (Cq x) L)) w):=by
 unfold maxLen at z0 z1;have HW:Hid (Cq x=x.hold.size+x.copy.size):=rfl;generalize Cq x=W at *;by_cases d0:L - (x.hold.size:Nat)<0
 ·go_enter Tryz.func50,Tryz.ntmps50
  go_wp2_with fail;go_ret;exact ⟨Bm (by have:=HW.out;unfold szR;rw [if_neg (by omega)]),by go_grown⟩
 ·skip
  by_cases d1:L - (x.hold.size:Nat) - (x.copy.size:Nat)<0
  ·go_enter Tryz.func50,Tryz.ntmps50
   go_wp2_with fail;go_ret;exact ⟨Bm (by have:=HW.out;unfold szR;rw [if_neg (by omega)]),by go_grown⟩
  ·skip
   go_enter Tryz.func50,Tryz.ntmps50;go_wp2_with fail;go_ret;exact ⟨Bm (by have:=HW.out;unfold szR;rw [if_pos (by omega)];omega),by go_grown⟩
theorem Bu:(Tryz.prog.info? 52).map (·.size)=some 4:=by kernel_rfl
theorem Gd:Nv 52 4:=⟨_,Tryz.underlying52,rfl,Bu⟩
theorem Xx (x:Aks) (w:World) :
  Calls Tryz.prog 64 #[.agg (aaA x)] w (Rt (.agg (aaA x)) w):=by
 go_enter Tryz.func64,Tryz.ntmps64
 go_wp2
 go_returns
 exact ⟨rfl,by go_grown⟩
theorem Wn (x:Aks) (w:World) :
  Calls Tryz.prog 93 #[.agg (aaA x),.agg (aaA x)] w (Rt (.bool true) w):=by
 go_enter Tryz.func93,Tryz.ntmps93
 go_wp2
 go_ret;exact ⟨rfl,by go_grown⟩
theorem Ng (xs:List Aks) (a:OA) (cap lo:Nat) (L:Int) (w:World) (hin:SliceC AksC 4 lo w a xs) (h0:0≤L) (h1:L≤1048576) :
  Calls Tryz.prog 16 #[.slice a xs.length cap,.int .i64 L] w (Rt (.int .i64 (szR (wS Cq xs) L)) w):=by
 have hlen:=hin.1;unfold maxLen at hlen;have HI:=iH hin;clear hin;have HW:Hid (wS Cq xs=xs.length+(xs.map Cq).sum):=rfl;generalize wS Cq xs=W at *;by_cases c1:L - xs.length<0
 ·go_enter Tryz.func16,Tryz.ntmps16
  go_wp2_with fail;go_ret;exact ⟨Bm (by have:=HW.out;unfold szR;rw [if_neg (by omega)]),Below.refl _ _⟩
 ·go_enter Tryz.func16,Tryz.ntmps16
  go_wp2_with fail;go_loopw [1,5] (fun l i wr=>∃ (k:Nat) (M:Int),k≤xs.length∧i=.int .i64 k∧l=.int .i64 M∧0≤M∧M≤1048576∧Hid (M=L - xs.length - ((xs.take k).map Cq).sum)∧Below w.heap.size w wr) (fun _ i _=>xs.length - (intOf i).toNat)
  case atStart=>exact ⟨0,_,zL,rfl,rfl,by omega,by omega,by show _=_;simp,Below.refl _ _⟩
  case round =>
   obtain ⟨k,M,hk,rfl,rfl,hM0,hM1,hM,hbel⟩:=hrel;by_cases hlt:k<xs.length
   ·obtain ⟨x,hx⟩:=gXe hlt
    obtain ⟨b,o,rfl,_,_,hc⟩:=(HI.out.below AksC.holds hbel nL).at hx;obtain ⟨q0,q1,q2,q3,z0,z1⟩:=hc;simp only [Nat.add_zero] at q0 q1 q2 q3;have HX:Hid (((xs.take (k+1)).map Cq).sum=((xs.take k).map Cq).sum+Cq x):=Jf _ _ _ _ hx;have HY:Hid (((xs.take (k+1)).map Cq).sum≤(xs.map Cq).sum):=Fl _ _ _;have CT:=Xi x M wr z0 z1 hM0 hM1;have HCT:=iH CT;clear hx CT;by_cases hr:(Cq x:Int)≤M
    ·rw [Eu hr] at HCT
     generalize hV:Cq x=V at *;clear hV;go_wp2_with fail;refine HCT.out.mono ?_;rintro e w1 ⟨rfl,hb1⟩;clear HCT;go_wp2_with fail;go_roundw
     case rel =>
      refine ⟨k+1,M - V,by omega,by go_num,rfl,by omega,by omega,?_,qTr hbel hb1⟩;have:=hM.out;have:=HX.out;show _=_
      omega
     case measure=>simp [intOf];omega
    ·rw [Es hr] at HCT
     generalize hV:Cq x=V at *;clear hV;go_wp2_with fail;refine HCT.out.mono ?_;rintro e w1 ⟨rfl,hb1⟩;clear HCT;go_wp2_with fail;go_ret;refine ⟨Bm ?_,qTr hbel hb1⟩;have:=HW.out;have:=HX.out;have:=HY.out;have:=hM.out;unfold szR;rw [if_neg (by omega)]
   ·go_wp2_with fail
    go_ret;refine ⟨Bm ?_,hbel⟩;have hke:k=xs.length:=by omega
    subst hke;have h3:=hM.out;have h4:=HW.out;simp only [List.take_length] at h3;unfold szR;rw [if_pos (by omega)];omega
theorem Fe:(Tryz.prog.info? 52).map (fun i=>(i.zero,i.size,i.bytes))=some (some (.agg AaA),4,48):=by kernel_rfl
theorem Mi (xs:List Aks) (a:OA) (cap lo:Nat) (w:World) (hin:SliceC AksC 4 lo w a xs) (hsm:wS Cq xs≤1048576) :
  Calls Tryz.prog 26 #[.slice a xs.length cap] w fun e w'=>∃ g,e=.returned (.slice (some ⟨g,0,none⟩) xs.length xs.length)∧w.heap.size≤g∧SliceC AksC 4 w.heap.size w' (some ⟨g,0,none⟩) xs∧Below w.heap.size w w':=by
 obtain ⟨i0,hi,hz0,hz1,hz2⟩:=info_parts Fe;have hlen:xs.length≤1048576:=lT Ff hsm;have HI:=iH hin;have HSM:=iH hsm;clear hin hsm;go_enter Tryz.func26,Tryz.ntmps26;go_wp2_with (at_make;refine wpList_make_full _ rfl _ _ 30 rfl w.heap.size 52 i0 _ 4 Tryz.underlying30 hi hz0 hz1 .i64 .i64 _ _ xs.length rfl rfl rfl rfl (by rw [hz2];omega) (by unfold maxLen;omega) nL ?_;intro w1 hown hgrow);have hb1:Below w.heap.size w w1:=(Below.refl _ _).grown hgrow nL (fun k h=>by cases h);have hsz1:=(hown.lt w.heap.size rfl).2;generalize hX:(madeCells _ (xs.length*4)).toList=xs0 at hown;clear hX hgrow hi hz0 hz1 hz2;go_loopw [4] (fun i wr=>∃ (k:Nat) (cs:List Value),k≤xs.length∧i=.int .i64 k∧w.heap.size<wr.heap.size∧wr.ownsRow w.heap.size 52 4 (.slice (some ⟨w.heap.size,0,none⟩) xs.length xs.length) xs.length cs∧RowC AksC 4 (w.heap.size+1) wr cs xs k∧Below w.heap.size w wr) (fun i _=>xs.length - (intOf i).toNat)
 case atStart=>exact ⟨0,xs0,zL,rfl,hsz1,hown,fun j n h=>by omega,hb1⟩
 case round =>
  clear hown hb1 hsz1;obtain ⟨k,cs,hk,rfl,hszr,hown,hfil,hbel⟩:=hrel;by_cases hlt:k<xs.length
  ·obtain ⟨x,hx⟩:=gXe hlt
   obtain ⟨b,o,rfl,_,_,hc⟩:=(HI.out.below AksC.holds hbel nL).at hx;obtain ⟨q0,q1,q2,q3,z0,z1⟩:=hc;simp only [Nat.add_zero] at q0 q1 q2 q3;have HN:=iH hx;have hwx:Cq x≤1048576:=lT (Na (List.mem_of_getElem? hx)) HSM;have HO:=iH hown;have HF:=iH hfil;have HS:=iH hszr;have CT:=Xx x wr;have HCT:=iH CT;clear hx hown hfil CT hszr;go_wp2_with fail;refine HCT.out.mono ?_;rintro e w2 ⟨rfl,hb2⟩;clear HCT q0 q1 q2 q3;have ho2:=Ae HO hb2;have HB2:=iH (qTr hbel hb2);have HF2:Hid (RowC AksC 4 (w.heap.size+1) w2 cs xs k):=HF.out.keep AksC.holds (Keeps.of_below hb2 nL _);have hs2:Hid (w.heap.size<w2.heap.size):=lL HS hb2.size;have HR:Hid (AksC (w.heap.size+1) w2 (fun i=>((aaL x):List Value)[i]?) x):=⟨rfl,rfl,rfl,rfl,z0,z1⟩;have hxl:cs.length=xs.length*4:=ho2.1;have HT:Hid (w2.there w.heap.size (k*4) 4):=Cg ho2 (by omega);have HL:=iH hxl;have HO2:=iH ho2;clear hxl ho2 HO hb2 hwx;obtain ⟨w3,hw3⟩:∃ w',w'=w2.setCells w.heap.size (k*4) (aaL x):=⟨_,rfl⟩;have HW3:=iH hw3;have HS3:Hid (w.heap.size<w3.heap.size):=by rw [hw3,Al];exact hs2
   have HO3:Hid (w3.ownsRow w.heap.size 52 4 (.slice (some ⟨w.heap.size,0,none⟩) xs.length xs.length) xs.length (Ce cs (k*4) (aaL x))):=by rw [hw3];exact Cp _ _ _ _ HO2
   have HB3:Hid (Below w.heap.size w w3):=by rw [hw3];exact Aa nL _ _ _ HB2
   have HR3:Hid (RowC AksC 4 (w.heap.size+1) w3 (Ce cs (k*4) (aaL x)) xs (k+1)):=by
    rw [hw3];exact (HF2.out.step (vs:=(aaL x)) AksC.holds HN rfl (by have:=HL.out;omega) HR).keep AksC.holds (Keeps.setCells (by omega) _ _ _)
   clear hw3 HB2 HF2 hs2 HR HL HO2;go_wp2_with (refine Ab rfl 52 _ _ rfl w.heap.size (k*4) (aaA x) (by first | rfl | (simp [go_sem];done)) rfl HT Bu (by simp [Value.oneCell']) w3 HW3 ?_);go_roundw
   case rel=>exact ⟨k+1,_,by omega,by go_num,HS3,HO3,HR3,HB3⟩
   case measure=>simp [intOf];omega
  ·have HO:=iH hown
   have HF:=iH hfil;clear hown hfil;go_wp2_with fail;go_ret;have hke:k=xs.length:=by omega
   subst hke;exact ⟨_,rfl,Nat.le_refl _,Fw HO HF AksC.holds HI.out.1 (by omega) nL,hbel⟩
theorem Mb (xs:List Aks) (a a':OA) (cap cap' lo lo':Nat) (w:World) (hg:SliceC AksC 4 lo w a xs) (hh:SliceC AksC 4 lo' w a' xs) (hsm:wS Cq xs≤1048576) :
  Calls Tryz.prog 39 #[.slice a xs.length cap,.slice a' xs.length cap'] w (Rt (.bool true) w):=by
 have hlen:xs.length≤1048576:=lT Ff hsm;have HG:=iH hg;have HH:=iH hh;clear hg hh hsm;go_enter Tryz.func39,Tryz.ntmps39;go_wp2_with fail;go_loopw [5] (fun i wr=>∃ (k:Nat),k≤xs.length∧i=.int .i64 k∧Below w.heap.size w wr) (fun i _=>xs.length - (intOf i).toNat)
 case atStart=>exact ⟨0,zL,rfl,Below.refl _ _⟩
 case round =>
  obtain ⟨k,hk,rfl,hbel⟩:=hrel;by_cases hlt:k<xs.length
  ·obtain ⟨x,hx⟩:=gXe hlt
   obtain ⟨b,o,rfl,_,_,hc⟩:=(HG.out.below AksC.holds hbel nL).at hx;obtain ⟨b',o',rfl,_,_,hc'⟩:=(HH.out.below AksC.holds hbel nL).at hx;obtain ⟨q0,q1,q2,q3,_,_⟩:=hc;obtain ⟨r0,r1,r2,r3,_,_⟩:=hc';simp only [Nat.add_zero] at q0 q1 q2 q3 r0 r1 r2 r3;have k0:=cell_regrown q0;have l0:=cell_regrown r0;have k1:=cell_regrown q1;have l1:=cell_regrown r1;have k2:=cell_regrown q2;have l2:=cell_regrown r2;have k3:=cell_regrown q3;have l3:=cell_regrown r3;have cE:∀ d os,Calls Tryz.prog 93 #[.agg (aaA x),.agg (aaA x)] (Sort.grow (redrawn wr d) os) fun e w''=>e=.returned (.bool true)∧∃ p:Regrown,w''=Sort.grow (redrawn wr p.d) p.os:=fun d os=>Calls.regrown_of (Wn x _)
   have i0:(0:Int)≤(k:Int):=by omega
   have i1:(k:Int)<(xs.length:Int):=by omega
   clear hx q0 q1 q2 q3 r0 r1 r2 r3;go_wp2_with fail;refine wp_region_quiet_below (by kernel_rfl) (by kernel_rfl) ?_
   repeat (quiet_step (first | exact cE _ _))
   refine wpQuiet_nil ?_;intro _ hw';obtain ⟨⟨dq,osq⟩,hw''⟩:=hw';have hB:=hbel.trans ((below_regrown wr dq osq).mono hbel.size);simp only [] at hw'';rw [← hw''] at hB;clear hw'' cE k0 l0 k1 l1 k2 l2 k3 l3;go_wp2_with fail;go_roundw
   case rel=>exact ⟨k+1,by omega,by go_num,hB⟩
   case measure=>simp [intOf];omega
  ·go_wp2_with fail
   go_ret;exact ⟨rfl,hbel⟩
end Go.Proofs.YtkiloaiffopllaaGreat
namespace Go.Proofs.YtkiloaiffopllaaGreat
open Go.RowKit Go.WideMaps Go.Maps
theorem Bo:Keyed Tryz.prog 9:=string_keyed Tryz.underlying9
theorem Sq (w:World):(zeroValue 3).run Tryz.prog w=.ok (.int .i64 0) w:=by kernel_rfl
theorem Dn {P:Program} {t k e:TypeId} (hu:P.underlying t=some (.map k e)) (q:IntKind) (n:Int) (w:World):(Instr.makeMap t (some (.int q n))).run P w=.ok (.map (some w.heap.size)) (w.alloc (.map #[] 0)):=by
 simp [Instr.makeMap,run_underlying hu,asInt,asIntOf,Result.andThen]
theorem Ak {H:Type} {P:Program} {k:TypeId} {R:Value→Option (DataW H×List MemPlace)} {b n:Nat} {D:DataW H} {w w':World} {B:Nat} (h:w.ownsMap P k R b n D) (hb:Below B w w') (hB:b<B):w'.ownsMap P k R b n D:=by
 obtain ⟨es,clock,h1,h2,h3,h4⟩:=h;exact ⟨es,clock,(hb.block b hB).trans h1,h2,h3,h4⟩
def kOf (s:BA):Lit:=.string s.data.toList
theorem Cl {s t:BA} (h:kOf s=kOf t):s=t:=by
 unfold kOf at h;injection h with h
 cases s with | mk a=>cases t with | mk b=>simp at h;simp [h]
def Fn (t:BA) (r:List BA):Nat:=r.countP (fun s=>decide (s=t))
theorem aG (t:BA) (r:List BA):Fn t r≤r.length:=List.countP_le_length
theorem Gm (t:BA) (r:List BA):Fn t (t::r)=Fn t r+1:=by simp [Fn]
theorem Gw {t s:BA} (h:¬ s=t) (r:List BA):Fn t (s::r)=Fn t r:=by simp [Fn,h]
def Kr:List BA→DataW Unit
 | []=>.map []
 | s::r=>(Kr r).put (kOf s) (.lit (.int .i64 (((Fn s r:Nat):Int)+1)))
theorem Nh:∀ r,IsMap (Kr r)
 | []=>⟨_,rfl⟩
 | _::r=>IsMap.put (Nh r) _ _
theorem Qn (t:BA):∀ r:List BA,(Kr r).atKey (kOf t) (.lit (.int .i64 0))=.lit (.int .i64 ((Fn t r:Nat):Int))
 | []=>rfl
 | s::r=>by
  unfold Kr;by_cases e:s=t
  ·subst e
   rw [atKey_put_same (Nh r) (show WideAt.IsKeyLit (kOf _) from trivial),Gm];simp
  ·rw [atKey_put_other (fun h=>e (Cl h).symm),Qn t r,Gw e]
theorem Kv {a b:Int} (h:(DataW.lit (Lit.int .i64 a):DataW Unit)=.lit (.int .i64 b)):a=b:=by
 injection h with h;injection h
def hR (hs:List BA):Nat→List BA
 | 0=>[]
 | k+1=>match hs[k]? with
  | some h=>h::hR hs k
  | none=>hR hs k
theorem Vm {hs:List BA} {k:Nat} {h:BA} (e:hs[k]?=some h):hR hs (k+1)=h::hR hs k:=by simp [hR,e]
theorem Zh (hs:List BA):∀ k,(hR hs k).length≤k
 | 0=>by simp [hR]
 | k+1=>by
  have:=Zh hs k;unfold hR
  split
  ·simp;omega
  ·omega
def Sn (hs:List BA) (k:Nat):Bool:=match hs[k]? with
 | some h=>h.toList == [] || decide (Fn h (hR hs k)=0)
 | none=>true
def Ee (hs:List BA):Nat→Bool
 | 0=>true
 | k+1=>Ee hs k && Sn hs k
theorem Hg {hs:List BA} {k:Nat} (h:Sn hs k=false):∀ n,k<n→Ee hs n=false
 | 0,hn=>absurd hn (Nat.not_lt_zero _)
 | n+1,hn=>by
  by_cases e:k=n
  ·subst e;simp only [Ee,h,Bool.and_false]
  ·simp only [Ee,Hg h n (by omega),Bool.false_and]
theorem Ni {hs:List BA} {k:Nat} {h:BA} (e:hs[k]?=some h):Sn hs k=(h.toList == [] || decide (Fn h (hR hs k)=0)):=by
 simp only [Sn,e]
theorem Du {w:World} {b o:Nat} {x:Wnt} {lo:Nat} (h:WntC lo w (fun i=>w.cell? ⟨b,o+i,none⟩) x):w.rangeAt b o (wwL x):=by
 obtain ⟨q0,q1,q2,q3,q4,q5,q6,_,_⟩:=h;simp only [Nat.add_zero] at q0 q1 q2 q3 q4 q5 q6;exact Aj q0 (Aj q1 (Aj q2 (Aj q3 (Aj q4 (Aj q5 (Aj q6 (Cc _ _ _)))))))
theorem Zb {R:List BA} {m n:Nat} {w:World} {s:BA} {c0:Int} (h:w.ownsMap Tryz.prog 9 (plainElem Tryz.prog 3) m n (Kr R)) (hs:s.size≤maxLen) (hA:(Kr R).atKey (kOf s) (.lit (.int .i64 0))=.lit (.int .i64 c0)) :
  (Instr.lookup 185 (.map (some m)) (.string s) false).run Tryz.prog w=.ok (.int .i64 c0) w:=by
 have hkey:keyOf Tryz.prog 9 (.string s)=some (kOf s):=keyOf_string_mk Tryz.underlying9 hs;obtain ⟨c,hrun,hc,_⟩:=h.lookup_int Bo Tryz.underlying185 Tryz.underlying3 (Sq w) hkey;rw [hrun,Kv (hc.symm.trans hA)]
theorem aY (xs:List Wnt) (a:OA) (cap:Nat) (w:World) :
  Calls Tryz.prog 145 #[.slice a xs.length cap] w (Rt (.bool (decide (xs.length≤10))) w):=by
 by_cases h:xs.length≤10
 ·have h':(xs.length:Int)≤10:=by omega
  have HC:Hid (decide (xs.length≤10)=true):=decide_eq_true h;clear h;go_enter Tryz.func145,Tryz.ntmps145;go_wp2_with fail;go_ret;exact ⟨Ac HC.out.symm,by go_grown⟩
 ·have h':(10:Int)<(xs.length:Int):=by omega
  have HC:Hid (decide (xs.length≤10)=false):=decide_eq_false h;clear h;go_enter Tryz.func145,Tryz.ntmps145;go_wp2_with fail;go_ret;exact ⟨Ac (by rw [HC.out];simp;omega),by go_grown⟩
theorem Yg (xs:List Wnt) (a:OA) (cap lo:Nat) (w:World) (hin:SliceC WntC 7 lo w a xs) (hsm:xs.length≤1048576) :
  Calls Tryz.prog 146 #[.slice a xs.length cap] w (Rt (.bool (Aw (xs.map (·.copy)) xs.length)) w):=by
 go_enter Tryz.func146,Tryz.ntmps146;go_wp2_with fail;refine (Tm xs a cap lo _ hin hsm).mono ?_;rintro e w1 ⟨rfl,hb1⟩;go_wp2_with fail;go_ret;exact ⟨rfl,hb1⟩
theorem aC {xs:List Wnt} {k:Nat} {x:Wnt} (h:xs[k]?=some x) (hr:wnB x=false):xs.all wnB=false:=by
 rw [List.all_eq_false];exact ⟨x,List.mem_of_getElem? h,by simp [hr]⟩
theorem Vb {xs:List Wnt} (h:∀ (j:Nat) x,j<xs.length→xs[j]?=some x→wnB x=true):xs.all wnB=true:=by
 rw [List.all_eq_true];intro r hr;obtain ⟨j,hj,e⟩:=List.getElem_of_mem hr;exact h j r hj (by rw [gE hj,e])
theorem Te (xs:List Wnt) (a:OA) (cap lo:Nat) (w:World) (hin:SliceC WntC 7 lo w a xs) (hsm:xs.length≤1048576) :
  Calls Tryz.prog 147 #[.slice a xs.length cap] w (Rt (.bool (xs.all wnB)) w):=by
  have HI:=iH hin;clear hin;go_enter Tryz.func147,Tryz.ntmps147;go_wp2_with fail;go_loopw [7] (fun i wr=>∃ k:Nat,k≤xs.length∧i=.int .i64 k∧Hid (∀ (j:Nat) x,j<k→xs[j]?=some x→wnB x=true)∧Below w.heap.size w wr) (fun i _=>xs.length - (intOf i).toNat)
  case atStart=>exact ⟨0,zL,rfl,fun j q h=>by omega,by go_grown⟩
  case round =>
   obtain ⟨k,hk,rfl,hN,hB⟩:=hrel;by_cases hlt:k<xs.length
   ·obtain ⟨x,hx⟩:=gXe hlt
    obtain ⟨b,o,rfl,_,hbl,hc⟩:=(HI.out.below WntC.holds hB nL).at hx;have HRA:=iH (Du hc);obtain ⟨_,_,_,_,_,_,_,z0,z2⟩:=hc;have Z0:=iH z0;have Z2:=iH z2;have HXX:=iH hx;clear z0 z2 hx;have hza:=Blk.alloc wr WwA 86;have HTS:Hid ((wr.alloc (Obj.cells WwA 86)).there wr.heap.size 0 7):=hza.there;obtain ⟨w4,HW4⟩:∃ w4,Hid (w4=(wr.alloc (Obj.cells WwA 86)).setCells wr.heap.size 0 (wwL x)):=⟨_,rfl⟩;have HK4:Hid (Blk wr.heap.size (wwA x) 86 w4):=by
     show Blk _ _ _ _
     rw [HW4.out];exact hza.setAll (wwA x) rfl
    have hbx:Below wr.heap.size wr w4:=by
     rw [HW4.out];exact Aa nL _ _ _ ((Below.refl _ wr).alloc nL _)
    have hB4:=qTr hB hbx;clear hza hbx;go_upto_region 4 with (first | (refine qLr Gr HRA ?_) | (refine Ab rfl 86 _ _ rfl wr.heap.size 0 (wwA x) rfl rfl HTS Au (by simp [Value.oneCell']) w4 HW4 ?_));clear HRA HTS HW4;go_wp2_with (first | (refine qLk Gr HK4 ?_));refine (Lf x _ Z0 Z2).mono ?_;rintro e w6 ⟨rfl,hb6⟩;have hB6:=qTr hB4 hb6;clear hb6 hB4
    cases hro:wnB x with
    | false =>
     have HE:=iH (aC HXX hro);clear hro;go_wp2_with fail;go_ret;exact ⟨Ac HE.out.symm,hB6⟩
    | true =>
     have HN2:Hid (∀ (j:Nat) y,j<k+1→xs[j]?=some y→wnB y=true):=fun j y hj hy=>by
      by_cases e:j=k
      ·subst e
       have:=HXX.out.symm.trans hy;cases this
       exact hro
      ·exact hN.out j y (by omega) hy
     clear hro;go_wp2_with fail;go_roundw
     case rel=>exact ⟨k+1,by omega,by go_num,HN2,hB6⟩
     case measure=>simp [intOf];omega
   ·have hke:k=xs.length:=by omega
    subst hke;have HE:=iH (Vb hN.out);go_wp2_with fail;go_ret;exact ⟨Ac HE.out.symm,hB⟩
theorem Ts (xs:List Wnt) (a:OA) (cap lo:Nat) (w:World) (hin:SliceC WntC 7 lo w a xs) (hsm:xs.length≤1048576) :
  Calls Tryz.prog 148 #[.slice a xs.length cap] w (Rt (.bool (Ee (xs.map (·.hold)) xs.length)) w):=by
  have hmm:∀ q n w,(Instr.makeMap 185 (some (.int q n))).run Tryz.prog w=.ok (.map (some w.heap.size)) (w.alloc (.map #[] 0)):=fun q n w=>Dn Tryz.underlying185 q n w
  have HI:=iH hin;clear hin;go_enter Tryz.func148,Tryz.ntmps148;go_wp2_with fail;go_loopw [11] (fun i wr=>∃ k n:Nat,k≤xs.length∧i=.int .i64 k∧Hid (n≤k)∧Hid (wr.ownsMap Tryz.prog 9 (plainElem Tryz.prog 3) w.heap.size n (Kr (hR (xs.map (·.hold)) k)))∧Hid (Ee (xs.map (·.hold)) k=true)∧Below w.heap.size w wr) (fun i _=>xs.length - (intOf i).toNat)
  case atStart=>exact ⟨0,0,zL,rfl,Nat.le_refl _,World.ownsMap_made _ _ _ _,rfl,(Below.refl _ _).alloc nL _⟩
  case round =>
   clear hmm;obtain ⟨k,n,hk,rfl,hn,ho,hD,hB⟩:=hrel;by_cases hlt:k<xs.length
   ·obtain ⟨x,hx⟩:=gXe hlt
    obtain ⟨b,o,rfl,_,hbl,hc⟩:=(HI.out.below WntC.holds hB nL).at hx;have HRA:=iH (Du hc);obtain ⟨_,_,_,_,_,_,_,z0,z2⟩:=hc;have Z0:=iH z0;have Z2:=iH z2;have HXX:=iH hx;clear z0 z2 hx;have hza:=Blk.alloc wr WwA 86;have HTS:Hid ((wr.alloc (Obj.cells WwA 86)).there wr.heap.size 0 7):=hza.there;obtain ⟨w4,HW4⟩:∃ w4,Hid (w4=(wr.alloc (Obj.cells WwA 86)).setCells wr.heap.size 0 (wwL x)):=⟨_,rfl⟩;have HK4:Hid (Blk wr.heap.size (wwA x) 86 w4):=by
     show Blk _ _ _ _
     rw [HW4.out];exact hza.setAll (wwA x) rfl
    have hbx:Below wr.heap.size wr w4:=by
     rw [HW4.out];exact Aa nL _ _ _ ((Below.refl _ wr).alloc nL _)
    have hB4:=qTr hB hbx;have HO4:=iH (Ak ho.out hbx ho.out.lt);have k2:w4.cell? ⟨wr.heap.size,2,none⟩=some (.string x.hold):=HK4.out.cell rfl;have hs4:w.heap.size<wr.heap.size:=ho.out.lt;clear hza hbx ho;go_upto_region 5 with (first | (refine qLr Gr HRA ?_) | (refine Ab rfl 86 _ _ rfl wr.heap.size 0 (wwA x) rfl rfl HTS Au (by simp [Value.oneCell']) w4 HW4 ?_));clear HRA HTS HW4;have HHX:Hid ((xs.map (·.hold))[k]?=some x.hold):=by show _=_;rw [List.getElem?_map,HXX.out];rfl
    have HHS:=iH (Vm HHX);have HDA:=iH (Ni HHX);have HL:=iH (Zh (xs.map (·.hold)) k);have hkm:keyOf Tryz.prog 9 (.string x.hold)=some (kOf x.hold):=keyOf_string_mk Tryz.underlying9 Z2;generalize hR (xs.map (·.hold)) k=R at HHS HDA HL HO4;obtain ⟨c0,hc0⟩:∃ c0:Nat,c0=Fn x.hold R:=⟨_,rfl⟩;have HA0:Hid ((Kr R).atKey (kOf x.hold) (.lit (.int .i64 0))=.lit (.int .i64 (c0:Int))):=by show _=_;rw [hc0];exact Qn x.hold R
    have HA1:Hid ((Kr (x.hold::R)).atKey (kOf x.hold) (.lit (.int .i64 0))=.lit (.int .i64 ((c0:Int)+1))):=by show _=_;rw [Qn,hc0,Gm];rfl
    have hc0l:c0≤2097152:=by have:=aG x.hold R;have:=HL.out;omega
    have HC0:Hid (Kr (x.hold::R)=(Kr R).put (kOf x.hold) (.lit (.int .i64 ((c0:Int)+1)))):=by show _=_;rw [hc0];rfl
    rw [← hc0] at HDA;clear hc0;go_upto_region 6 with (first | (at_lookup;refine wpList_lookup_own_int _ rfl _ _ 185 rfl 9 3 .i64 Bo Tryz.underlying185 Tryz.underlying3 (Sq _) w.heap.size _ _ rfl HO4 _ _ rfl hkm ?_;intro c hcc _;obtain rfl:=Kv (hcc.symm.trans HA0)) | (at_mapUpdate;refine wpList_mapUpdate_own _ rfl _ _ _ 185 rfl 9 3 Bo Tryz.underlying185 _ w.heap.size n _ rfl HO4 (by have:=hn.out;unfold maxLen;omega) _ _ _ rfl rfl hkm _ [] (plainElem_int Tryz.underlying3 (WalkArith.wf_i64 (by omega))) ?_;intro w5 hown5 hgrow5));have HO5:Hid (w5.ownsMap Tryz.prog 9 (plainElem Tryz.prog 3) w.heap.size (n+1) (Kr (x.hold::R))):=HC0.out.symm▸hown5;have HB5:Below w.heap.size w w5:=hB4.grown hgrow5 hB4.size (fun j hj=>by cases hj;exact Nat.le_refl _);have m2:w5.cell? ⟨wr.heap.size,2,none⟩=some (.string x.hold):=hgrow5.cell k2 (fun h=>absurd (Option.some.inj h) (by show ¬ _=_;simp;omega));clear hown5 hgrow5 HO4 HA0 HC0 k2 HK4 hB4;have yl:(Instr.lookup 185 (.map (some w.heap.size)) (.string x.hold) false).run Tryz.prog w5=.ok (.int .i64 ((c0:Int)+1)) w5:=Zb HO5 Z2 HA1;clear hcc HA1 hkm;have HO6:Hid (w5.ownsMap Tryz.prog 9 (plainElem Tryz.prog 3) w.heap.size (n+1) (Kr (hR (xs.map (·.hold)) (k+1)))):=by rw [HHS.out];exact HO5
    clear HO5 HHS;by_cases hh:x.hold.toList=[]
    ·have HE:Hid (Ee (xs.map (·.hold)) (k+1)=true):=by show _=_;rw [Ee,hD.out,HDA.out,hh];rfl
     clear yl;go_wp2_with fail;go_roundw
     case rel=>exact ⟨k+1,n+1,by omega,by go_num,by have:=hn.out;show _≤_;omega,HO6,HE,HB5⟩
     case measure=>simp [intOf];omega
    ·have hhb:(x.hold.toList == [])=false:=by simp [hh]
     rw [hhb,Bool.false_or] at HDA;clear hhb;by_cases h0:c0=0
     ·have HE:Hid (Ee (xs.map (·.hold)) (k+1)=true):=by show _=_;rw [Ee,hD.out,HDA.out,h0];rfl
      have i1:¬ (1:Int)<(c0:Int)+1:=by omega
      clear h0 HDA;go_wp2_with fail;go_roundw
      case rel=>exact ⟨k+1,n+1,by omega,by go_num,by have:=hn.out;show _≤_;omega,HO6,HE,HB5⟩
      case measure=>simp [intOf];omega
     ·have HE:=iH (Hg (hs:=xs.map (·.hold)) (k:=k) (by rw [HDA.out];simpa using h0) _ hlt)
      have i1:(1:Int)<(c0:Int)+1:=by omega
      clear h0 HDA;go_wp2_with fail
      ·go_ret
       exact ⟨Ac HE.out.symm,HB5⟩
      ·rename_i h9
       exact absurd h9 (by simp [hh])
   ·have hke:k=xs.length:=by omega
    subst hke;have HE:=hD;go_wp2_with fail;go_ret;exact ⟨Ac HE.out.symm,hB⟩
end Go.Proofs.YtkiloaiffopllaaGreat
