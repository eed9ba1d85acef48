import Derived.Test.YtkiloaiffopllaaGreatMt4
set_option maxHeartbeats 4000000
namespace Go.Proofs.YtkiloaiffopllaaGreat
set_option maxRecDepth 100000
open Go.RowKit
def setRow (cs:Array Value):Nat→List Value→Array Value
 | _,[]=>cs
 | o,v::r=>setRow (cs.setIfInBounds o v) (o+1) r
theorem Ik (v:Value):∀ (l:List Value) (o:Nat),o<l.length→(l.set o v).take (o+1)=l.take o++[v]
 | [],_,h=>by simp at h
 | a::l,0,_=>by simp
 | a::l,o+1,h=>by
  have ih:=Ik v l o (by simpa using h);simp [ih]
theorem Kx:∀ (vs:List Value) (cs:Array Value) (o:Nat),o+vs.length=cs.size→(setRow cs o vs).toList=cs.toList.take o++vs
 | [],cs,o,h=>by
  have:cs.toList.length≤o:=by simp at h;simp;omega
  simp [setRow,List.take_of_length_le this]
 | v::r,cs,o,h=>by
  have h':o+(r.length+1)=cs.size:=by simpa using h
  have ih:=Kx r (cs.setIfInBounds o v) (o+1) (by simp;omega);simp only [setRow];rw [ih,Array.toList_setIfInBounds,Ik v _ _ (by simp;omega)];simp
theorem Tr (vs:List Value) (cs:Array Value) (h:vs.length=cs.size):setRow cs 0 vs=vs.toArray:=by
 have:=Kx vs cs 0 (by omega);apply Array.toList_inj.1;rw [this];simp
theorem Blk.setRow {g:Nat} {t:TypeId}:∀ (vs:List Value) (o:Nat) (cs:Array Value) (w:World),Blk g cs t w→Blk g (setRow cs o vs) t (w.setCells g o vs)
 | [],_,_,_,h=>h
 | v::r,o,_,_,h=>Blk.setRow r (o+1) _ _ (h.set o v)
theorem Blk.setAll {g:Nat} {cs:Array Value} {t:TypeId} {w:World} (h:Blk g cs t w) (vs:Array Value) (hl:vs.size=cs.size):Blk g vs t (w.setCells g 0 vs.toList):=by
 have:=h.setRow vs.toList 0;rw [Tr vs.toList cs (by simpa using hl)] at this;simpa using this
theorem Blk.grown {g:Nat} {cs:Array Value} {t:TypeId} {w w':World} {row:Option Nat} (h:Blk g cs t w) (hg:w.grownBy w' row) (hr:some g≠row):Blk g cs t w':=(hg.block g h.lt hr).trans h
theorem Ar {g b:Nat} {cs:Array Value} {t:TypeId} (hne:g≠b):∀ (vs:List Value) (o:Nat) (w:World),Blk g cs t w→Blk g cs t (w.setCells b o vs)
 | [],_,_,h=>h
 | v::r,o,_,h=>Ar hne r (o+1) _ (h.other (a:=⟨b,o,none⟩) hne v)
def Hj (ns:List BA):Nat→Bool
 | 0=>true
 | m+1=>match ns[m]?,ns[m+1]? with
  | some s,some t=>Op.bytesLess s.toList t.toList
  | _,_=>true
def Aw (ns:List BA):Nat→Bool
 | 0=>true
 | k+1=>Aw ns k && Hj ns k
theorem Cz {ns:List BA} {k:Nat} (h:Hj ns k=false):∀ n,k<n→Aw ns n=false
 | 0,hn=>absurd hn (Nat.not_lt_zero _)
 | n+1,hn=>by
  by_cases e:k=n
  ·subst e;simp only [Aw,h,Bool.and_false]
  ·simp only [Aw,Cz h n (by omega),Bool.false_and]
theorem Eo {ns:List BA} {m:Nat} {s t:BA} (h:ns[m]?=some s) (h2:ns[m+1]?=some t):Hj ns (m+1)=Op.bytesLess s.toList t.toList:=by
 simp only [Hj,h,h2]
theorem Hc (x:Wnt) (w:World) :
  Calls Tryz.prog 80 #[.agg (wwA x)] w (Rt (.string x.copy) w):=by
 go_enter Tryz.func80,Tryz.ntmps80;go_wp2_with fail;go_ret;exact ⟨rfl,by go_grown⟩
theorem Tm (xs:List Wnt) (a:OA) (cap lo:Nat) (w:World) (hin:SliceC WntC 7 lo w a xs) (hsm:xs.length≤1048576) :
  Calls Tryz.prog 167 #[.slice a xs.length cap,.func (.func 80) #[] #[]] w (Rt (.bool (Aw (xs.map (·.copy)) xs.length)) w):=by
 have HI:=iH hin;clear hin;go_enter Tryz.func167,Tryz.ntmps167;go_wp2_with fail;go_loopw [5] (fun i wr=>∃ m:Nat,(m=0∨m+1≤xs.length)∧i=.int .i64 ((m:Int)+1)∧Hid (Aw (xs.map (·.copy)) (m+1)=true)∧Below w.heap.size w wr) (fun i _=>xs.length+1 - (intOf i).toNat)
 case atStart=>exact ⟨0,.inl rfl,rfl,rfl,by go_grown⟩
 case round =>
  obtain ⟨m,hm,rfl,ho,hbel⟩:=hrel;by_cases hlt:m+1<xs.length
  ·obtain ⟨x,hx⟩:∃ x,xs[m]?=some x:=⟨xs[m],gE (by omega)⟩
   obtain ⟨y,hy⟩:∃ y,xs[m+1]?=some y:=⟨xs[m+1],gE (by omega)⟩;have HIR:=HI.out.below WntC.holds hbel nL;obtain ⟨b,o,rfl,_,_,hc⟩:=HIR.at hx;obtain ⟨b',o',e',_,_,hc'⟩:=HIR.at hy;cases e'
   obtain ⟨q0,q1,q2,q3,q4,q5,q6,_,_⟩:=hc;obtain ⟨r0,r1,r2,r3,r4,r5,r6,_,_⟩:=hc';simp only [Nat.add_zero] at q0 q1 q2 q3 q4 q5 q6 r0 r1 r2 r3 r4 r5 r6;have HA:Hid (Hj (xs.map (·.copy)) (m+1)=Op.bytesLess x.copy.toList y.copy.toList):=Eo (by rw [List.getElem?_map,hx];rfl) (by rw [List.getElem?_map,hy];rfl);have k0:=cell_regrown q0;have l0:=cell_regrown r0;have k1:=cell_regrown q1;have l1:=cell_regrown r1;have k2:=cell_regrown q2;have l2:=cell_regrown r2;have k3:=cell_regrown q3;have l3:=cell_regrown r3;have k4:=cell_regrown q4;have l4:=cell_regrown r4;have k5:=cell_regrown q5;have l5:=cell_regrown r5;have k6:=cell_regrown q6;have l6:=cell_regrown r6;have cX:∀ d os,Calls Tryz.prog 80 #[.agg (wwA x)] (Sort.grow (redrawn wr d) os) fun e w''=>e=.returned (.string x.copy)∧∃ p:Regrown,w''=Sort.grow (redrawn wr p.d) p.os:=fun d os=>Calls.regrown_of (Hc x _)
   have cY:∀ d os,Calls Tryz.prog 80 #[.agg (wwA y)] (Sort.grow (redrawn wr d) os) fun e w''=>e=.returned (.string y.copy)∧∃ p:Regrown,w''=Sort.grow (redrawn wr p.d) p.os:=fun d os=>Calls.regrown_of (Hc y _)
   have i0:(0:Int)≤(m:Int):=by omega
   have i1:(m:Int)<(xs.length:Int):=by omega
   have i2:(0:Int)≤(m:Int)+1:=by omega
   have i3:(m:Int)+1<(xs.length:Int):=by omega
   clear hx hy q0 q1 q2 q3 q4 q5 q6 r0 r1 r2 r3 r4 r5 r6 HIR;have HWM:Hid (IntKind.i64.wrap (m:Int)=(m:Int)):=by show _=_;rw [IntKind.wrap_i64];omega
   have HLT:=iH hlt;generalize hq:Op.bytesLess x.copy.toList y.copy.toList=Q at HA;have HQ:=iH hq;clear hq hlt;go_wp2_with fail;refine wp_region_quiet_below (by kernel_rfl) (by kernel_rfl) ?_
   repeat (quiet_step (first | exact cX _ _ | exact cY _ _))
   rw [HWM.out]
   repeat (quiet_step (first | exact cX _ _ | exact cY _ _))
   refine wpQuiet_nil ?_;intro _ hw';obtain ⟨⟨dq,osq⟩,hw''⟩:=hw';have hB:=hbel.trans ((below_regrown wr dq osq).mono hbel.size);simp only [] at hw'';rw [← hw''] at hB;clear hw'' cX cY k0 l0 k1 l1 k2 l2 k3 l3 k4 l4 k5 l5 k6 l6;rw [HQ.out]
   cases Q with
   | false =>
    have HE:=iH (Cz HA _ HLT);go_wp2_with fail;go_ret;exact ⟨Ac HE.out.symm,hB⟩
   | true =>
    have HE:Hid (Aw (xs.map (·.copy)) (m+1+1)=true):=by show _=_;rw [Aw,ho.out,HA.out];rfl
    have hlt:=HLT.out;go_wp2_with fail;go_roundw
    case rel=>exact ⟨m+1,.inr (by omega),by go_num,HE,hB⟩
    case measure=>simp [intOf];omega
  ·have HE:Hid (Aw (xs.map (·.copy)) xs.length=true):=by
    rcases (show m+1=xs.length∨xs.length=0 by omega) with e | e
    ·rw [← e];exact ho.out
    ·rw [e];rfl
   go_wp2_with fail;go_ret;exact ⟨Ac HE.out.symm,hbel⟩
theorem Jc (x:Rn) (w:World) :
  Calls Tryz.prog 82 #[.agg (rrA x)] w (Rt (.string x.want.copy) w):=by
 go_enter Tryz.func82,Tryz.ntmps82;go_wp2_with fail;go_ret;exact ⟨rfl,by go_grown⟩
theorem Xk (xs:List Rn) (a:OA) (cap lo:Nat) (w:World) (hin:SliceC RnC 11 lo w a xs) (hsm:xs.length≤1048576) :
  Calls Tryz.prog 136 #[.slice a xs.length cap,.func (.func 82) #[] #[]] w (Rt (.bool (Aw (xs.map (·.want.copy)) xs.length)) w):=by
 have HI:=iH hin;clear hin;go_enter Tryz.func136,Tryz.ntmps136;go_wp2_with fail;go_loopw [5] (fun i wr=>∃ m:Nat,(m=0∨m+1≤xs.length)∧i=.int .i64 ((m:Int)+1)∧Hid (Aw (xs.map (·.want.copy)) (m+1)=true)∧Below w.heap.size w wr) (fun i _=>xs.length+1 - (intOf i).toNat)
 case atStart=>exact ⟨0,.inl rfl,rfl,rfl,by go_grown⟩
 case round =>
  obtain ⟨m,hm,rfl,ho,hbel⟩:=hrel;by_cases hlt:m+1<xs.length
  ·obtain ⟨x,hx⟩:∃ x,xs[m]?=some x:=⟨xs[m],gE (by omega)⟩
   obtain ⟨y,hy⟩:∃ y,xs[m+1]?=some y:=⟨xs[m+1],gE (by omega)⟩;have HIR:=HI.out.below RnC.holds hbel nL;obtain ⟨b,o,rfl,_,_,hc⟩:=HIR.at hx;obtain ⟨b',o',e',_,_,hc'⟩:=HIR.at hy;cases e'
   obtain ⟨q0,q1,q2,q3,q4,q5,q6,q7,q8,q9,q10,_,_⟩:=hc;obtain ⟨r0,r1,r2,r3,r4,r5,r6,r7,r8,r9,r10,_,_⟩:=hc';simp only [Nat.add_zero] at q0 q1 q2 q3 q4 q5 q6 q7 q8 q9 q10 r0 r1 r2 r3 r4 r5 r6 r7 r8 r9 r10;have HA:Hid (Hj (xs.map (·.want.copy)) (m+1)=Op.bytesLess x.want.copy.toList y.want.copy.toList):=Eo (by rw [List.getElem?_map,hx];rfl) (by rw [List.getElem?_map,hy];rfl);have k0:=cell_regrown q0;have l0:=cell_regrown r0;have k1:=cell_regrown q1;have l1:=cell_regrown r1;have k2:=cell_regrown q2;have l2:=cell_regrown r2;have k3:=cell_regrown q3;have l3:=cell_regrown r3;have k4:=cell_regrown q4;have l4:=cell_regrown r4;have k5:=cell_regrown q5;have l5:=cell_regrown r5;have k6:=cell_regrown q6;have l6:=cell_regrown r6;have k7:=cell_regrown q7;have l7:=cell_regrown r7;have k8:=cell_regrown q8;have l8:=cell_regrown r8;have k9:=cell_regrown q9;have l9:=cell_regrown r9;have k10:=cell_regrown q10;have l10:=cell_regrown r10;have cX:∀ d os,Calls Tryz.prog 82 #[.agg (rrA x)] (Sort.grow (redrawn wr d) os) fun e w''=>e=.returned (.string x.want.copy)∧∃ p:Regrown,w''=Sort.grow (redrawn wr p.d) p.os:=fun d os=>Calls.regrown_of (Jc x _)
   have cY:∀ d os,Calls Tryz.prog 82 #[.agg (rrA y)] (Sort.grow (redrawn wr d) os) fun e w''=>e=.returned (.string y.want.copy)∧∃ p:Regrown,w''=Sort.grow (redrawn wr p.d) p.os:=fun d os=>Calls.regrown_of (Jc y _)
   have i0:(0:Int)≤(m:Int):=by omega
   have i1:(m:Int)<(xs.length:Int):=by omega
   have i2:(0:Int)≤(m:Int)+1:=by omega
   have i3:(m:Int)+1<(xs.length:Int):=by omega
   clear hx hy q0 q1 q2 q3 q4 q5 q6 q7 q8 q9 q10 r0 r1 r2 r3 r4 r5 r6 r7 r8 r9 r10 HIR;have HWM:Hid (IntKind.i64.wrap (m:Int)=(m:Int)):=by show _=_;rw [IntKind.wrap_i64];omega
   have HLT:=iH hlt;generalize hq:Op.bytesLess x.want.copy.toList y.want.copy.toList=Q at HA;have HQ:=iH hq;clear hq hlt;go_wp2_with fail;refine wp_region_quiet_below (by kernel_rfl) (by kernel_rfl) ?_
   repeat (quiet_step (first | exact cX _ _ | exact cY _ _))
   rw [HWM.out]
   repeat (quiet_step (first | exact cX _ _ | exact cY _ _))
   refine wpQuiet_nil ?_;intro _ hw';obtain ⟨⟨dq,osq⟩,hw''⟩:=hw';have hB:=hbel.trans ((below_regrown wr dq osq).mono hbel.size);simp only [] at hw'';rw [← hw''] at hB;clear hw'' cX cY k0 l0 k1 l1 k2 l2 k3 l3 k4 l4 k5 l5 k6 l6 k7 l7 k8 l8 k9 l9 k10 l10;rw [HQ.out]
   cases Q with
   | false =>
    have HE:=iH (Cz HA _ HLT);go_wp2_with fail;go_ret;exact ⟨Ac HE.out.symm,hB⟩
   | true =>
    have HE:Hid (Aw (xs.map (·.want.copy)) (m+1+1)=true):=by show _=_;rw [Aw,ho.out,HA.out];rfl
    have hlt:=HLT.out;go_wp2_with fail;go_roundw
    case rel=>exact ⟨m+1,.inr (by omega),by go_num,HE,hB⟩
    case measure=>simp [intOf];omega
  ·have HE:Hid (Aw (xs.map (·.want.copy)) xs.length=true):=by
    rcases (show m+1=xs.length∨xs.length=0 by omega) with e | e
    ·rw [← e];exact ho.out
    ·rw [e];rfl
   go_wp2_with fail;go_ret;exact ⟨Ac HE.out.symm,hbel⟩
def rsB (xs:List Rn) (c:Int):Bool:=decide (xs.length≤20) && (Aw (xs.map (·.want.copy)) xs.length && xs.all (roB · c))
theorem aB {xs:List Rn} {c:Int} {k:Nat} {x:Rn} (h:xs[k]?=some x) (hr:roB x c=false):rsB xs c=false:=by
 have:xs.all (roB · c)=false:=by
  rw [List.all_eq_false];exact ⟨x,List.mem_of_getElem? h,by simp [hr]⟩
 unfold rsB;rw [this,Bool.and_false,Bool.and_false]
theorem Ve {xs:List Rn} {c:Int} (hl:xs.length≤20) (ha:Aw (xs.map (·.want.copy)) xs.length=true) (h:∀ (j:Nat) x,j<xs.length→xs[j]?=some x→roB x c=true):rsB xs c=true:=by
 have:xs.all (roB · c)=true:=by
  rw [List.all_eq_true];intro r hr;obtain ⟨j,hj,e⟩:=List.getElem_of_mem hr;exact h j r hj (by rw [gE hj,e])
 unfold rsB;rw [this,ha,decide_eq_true hl];rfl
theorem Bc {w:World} {b o:Nat} {x:Rn} (h:RnC 0 w (fun i=>w.cell? ⟨b,o+i,none⟩) x):w.rangeAt b o (rrL x):=by
 obtain ⟨q0,q1,q2,q3,q4,q5,q6,q7,q8,q9,q10,_,_⟩:=h;simp only [Nat.add_zero] at q0 q1 q2 q3 q4 q5 q6 q7 q8 q9 q10;exact Aj q0 (Aj q1 (Aj q2 (Aj q3 (Aj q4 (Aj q5 (Aj q6 (Aj q7 (Aj q8 (Aj q9 (Aj q10 (Cc _ _ _)))))))))))
theorem Mg (xs:List Rn) (a:OA) (cap lo:Nat) (c:Int) (w:World) (hin:SliceC RnC 11 lo w a xs) (hsm:xs.length≤1048576) :
  Calls Tryz.prog 125 #[.slice a xs.length cap,.int .i64 c] w (Rt (.bool (rsB xs c)) w):=by
 have HI:=iH hin;clear hin;by_cases hl:xs.length≤20
 case neg =>
  have hl':(20:Int)<xs.length:=by omega
  have HE:Hid (rsB xs c=false):=by show _=_;unfold rsB;rw [decide_eq_false hl];rfl
  clear hl;go_enter Tryz.func125,Tryz.ntmps125;go_wp2_with fail;go_ret;exact ⟨Ac HE.out.symm,by go_grown⟩
 have hl':(xs.length:Int)≤20:=by omega
 go_enter Tryz.func125,Tryz.ntmps125;go_wp2_with fail;refine (Xk xs a cap lo _ HI hsm).mono ?_;rintro e w1 ⟨rfl,hb1⟩
 cases hasc:Aw (xs.map (·.want.copy)) xs.length with
 | false =>
  have HE:Hid (rsB xs c=false):=by show _=_;unfold rsB;rw [hasc];simp
  go_wp2_with fail;go_ret;exact ⟨Ac HE.out.symm,hb1⟩
 | true =>
  have HASC:=iH hasc;clear hasc;go_wp2_with fail;go_loopw [17] (fun i wr=>∃ k:Nat,k≤xs.length∧i=.int .i64 k∧Hid (∀ (j:Nat) x,j<k→xs[j]?=some x→roB x c=true)∧Below w.heap.size w wr) (fun i _=>xs.length - (intOf i).toNat)
  case atStart=>exact ⟨0,zL,rfl,fun j q h=>by omega,hb1⟩
  case round =>
   clear hb1;obtain ⟨k,hk,rfl,hN,hB⟩:=hrel;by_cases hlt:k<xs.length
   ·obtain ⟨x,hx⟩:=gXe hlt
    obtain ⟨b,o,rfl,_,hbl,hc⟩:=(HI.out.below RnC.holds hB nL).at hx;have hz:=hc;obtain ⟨_,_,_,_,_,_,_,_,_,_,_,z0,z2⟩:=hz;have HRA:=iH (Bc hc);have Z0:=iH z0;have Z2:=iH z2;have HXX:=iH hx;clear hc z0 z2 hx;have hza:=Blk.alloc wr RrA 88;have HTS:Hid ((wr.alloc (Obj.cells RrA 88)).there wr.heap.size 0 11):=hza.there;obtain ⟨w4,HW4⟩:∃ w4,Hid (w4=(wr.alloc (Obj.cells RrA 88)).setCells wr.heap.size 0 (rrL x)):=⟨_,rfl⟩;have HK4:Hid (Blk wr.heap.size (rrA x) 88 w4):=by
     show Blk _ _ _ _
     rw [HW4.out];exact hza.setAll (rrA x) rfl
    have hbx:Below wr.heap.size wr w4:=by
     rw [HW4.out];exact Aa nL _ _ _ ((Below.refl _ wr).alloc nL _)
    have hB4:=qTr hB hbx;clear hza hbx;go_upto_region 6 with (first | (refine qLr Bi HRA ?_) | (refine Ab rfl 88 _ _ rfl wr.heap.size 0 (rrA x) rfl rfl HTS Ag (by simp [Value.oneCell']) w4 HW4 ?_));clear HRA HTS HW4;go_wp2_with (first | (refine qLk Bi HK4 ?_));refine (Hu x _).mono ?_;rintro e w5 ⟨rfl,hb5⟩;have hB5:=qTr hB4 hb5;clear hb5 hB4 HK4;go_wp2_with fail;refine (bH x c _ Z0 Z2).mono ?_;rintro e w6 ⟨rfl,hb6⟩;have hB6:=qTr hB5 hb6;clear hb6 hB5
    cases hro:roB x c with
    | false =>
     have HE:=iH (aB HXX hro);clear hro;go_wp2_with fail;go_ret;exact ⟨Ac HE.out.symm,hB6⟩
    | true =>
     have HN2:Hid (∀ (j:Nat) y,j<k+1→xs[j]?=some y→roB y c=true):=fun j y hj hy=>by
      by_cases e:j=k
      ·subst e
       have:=HXX.out.symm.trans hy;cases this
       exact hro
      ·exact hN.out j y (by omega) hy
     clear hro;go_wp2_with fail;go_roundw
     case rel=>exact ⟨k+1,by omega,by go_num,HN2,hB6⟩
     case measure=>simp [intOf];omega
   ·have hke:k=xs.length:=by omega
    subst hke;have HE:=iH (Ve hl HASC hN.out);go_wp2_with fail;go_ret;exact ⟨Ac HE.out.symm,hB⟩
end Go.Proofs.YtkiloaiffopllaaGreat
