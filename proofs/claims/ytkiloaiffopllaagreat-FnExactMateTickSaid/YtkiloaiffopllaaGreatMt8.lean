import Derived.Test.YtkiloaiffopllaaGreatJ10
set_option maxHeartbeats 4000000
namespace Go.Proofs.YtkiloaiffopllaaGreat
set_option maxRecDepth 100000
open Go.RowKit Go.WideMaps Go.Maps
def wsB (xs:List Wnt):Bool:=decide (xs.length≤10) && (Aw (xs.map (·.copy)) xs.length && (xs.all wnB && Ee (xs.map (·.hold)) xs.length))
theorem Zy (xs:List Wnt) (a:OA) (c:Nat) (rs:List (Nat×Bool)) (g cap:Nat) (w:World) (hrl:rs.length≤8)
  (hsay:∀ (k:Nat) r,rs[k]?=some r→∀ v,Below w.heap.size w v→Calls Tryz.prog r.1 #[.slice a xs.length c] v fun e w'=>e=.returned (.bool r.2)∧Below v.heap.size v w') (heg:∀ (k:Nat) r,rs[k]?=some r→∀ args w,(callFunc r.1 args).run Tryz.prog w=.ok (.enter r.1 args) w)
  (hR:Oq g rs w) (hg:g<w.heap.size) :
  Calls Tryz.prog 134 #[.slice (some ⟨g,0,none⟩) rs.length cap,.slice a xs.length c] w (Rt (.bool (Jx rs)) w):=by
 have HR:=iH hR;have HSAY:=iH hsay;have HEG:=iH heg;clear hR hsay heg;go_enter Tryz.func134,Tryz.ntmps134;go_wp2_with fail;go_loopw [9] (fun i wr=>∃ k:Nat,k≤rs.length∧i=.int .i64 k∧Hid (∀ (j:Nat) q,j<k→rs[j]?=some q→q.2=true)∧Below w.heap.size w wr) (fun i _=>rs.length - (intOf i).toNat)
 case atStart=>exact ⟨0,zL,rfl,fun j q h=>by omega,by go_grown⟩
 case round =>
  obtain ⟨k,hk,rfl,hN,hB⟩:=hrel;by_cases hlt:k<rs.length
  ·obtain ⟨r,hr⟩:=gXe hlt
   have c0:wr.cell? ⟨g,k,none⟩=some (.func (.func r.1) #[] #[]):=(hB.cell (p:=⟨g,k,none⟩) hg).trans (HR k r hr);have HSK:=iH (HSAY k r hr);have heg:=HEG.out k r hr;have HRR:=iH hr;obtain ⟨fid,tr⟩:=r;simp only at c0 HSK heg;clear hr;go_wp2_with fail;refine (HSK wr hB).mono ?_;rintro e w5 ⟨rfl,hb5⟩;have hB5:=qTr hB hb5;clear hb5 heg HSK c0 hB
   cases tr with
   | false =>
    have HE:=iH (Pn HRR rfl);go_wp2_with fail;go_ret;exact ⟨Ac HE.out.symm,hB5⟩
   | true =>
    have HN2:Hid (∀ (j:Nat) q,j<k+1→rs[j]?=some q→q.2=true):=fun j q hj hq=>by
     by_cases e:j=k
     ·subst e
      have:=HRR.out.symm.trans hq;cases this
      rfl
     ·exact hN.out j q (by omega) hq
    go_wp2_with fail;go_roundw
    case rel=>exact ⟨k+1,by omega,by go_num,HN2,hB5⟩
    case measure=>simp [intOf];omega
  ·have hke:k=rs.length:=by omega
   subst hke;have HE:=iH (Nl hN.out);go_wp2_with fail;go_ret;exact ⟨Ac HE.out.symm,hB⟩
def wsR (xs:List Wnt):List (Nat×Bool):=[(145,decide (xs.length≤10)),(146,Aw (xs.map (·.copy)) xs.length),(147,xs.all wnB),(148,Ee (xs.map (·.hold)) xs.length)]
theorem aQ (xs:List Wnt):Jx (wsR xs)=wsB xs:=by
 simp only [Jx,wsR,wsB,List.all_cons,List.all_nil,Bool.and_true]
theorem Xy (xs:List Wnt) (a:OA) (c lo:Nat) (w:World) (hin:SliceC WntC 7 lo w a xs) (hsm:xs.length≤1048576):∀ (k:Nat) r,(wsR xs)[k]?=some r→∀ v,Below w.heap.size w v→Calls Tryz.prog r.1 #[.slice a xs.length c] v fun e w'=>e=.returned (.bool r.2)∧Below v.heap.size v w':=by
 intro k r hk;have h:=List.mem_of_getElem? hk;simp only [wsR,List.mem_cons,List.not_mem_nil,or_false] at h;rcases h with rfl | rfl | rfl | rfl
 ·exact fun v _=>aY xs a c v
 ·exact fun v hb=>Yg xs a c lo v (hin.below WntC.holds hb nL) hsm
 ·exact fun v hb=>Te xs a c lo v (hin.below WntC.holds hb nL) hsm
 ·exact fun v hb=>Ts xs a c lo v (hin.below WntC.holds hb nL) hsm
theorem Ud (xs:List Wnt):∀ (k:Nat) r,(wsR xs)[k]?=some r→∀ args w,(callFunc r.1 args).run Tryz.prog w=.ok (.enter r.1 args) w:=by
 intro k r hk;have h:=List.mem_of_getElem? hk;simp only [wsR,List.mem_cons,List.not_mem_nil,or_false] at h;rcases h with rfl | rfl | rfl | rfl
 ·exact enters_of Tryz.func145 (by kernel_rfl) rfl
 ·exact enters_of Tryz.func146 (by kernel_rfl) rfl
 ·exact enters_of Tryz.func147 (by kernel_rfl) rfl
 ·exact enters_of Tryz.func148 (by kernel_rfl) rfl
abbrev wsV:List Value:=[.func (.func 145) #[] #[],.func (.func 146) #[] #[],.func (.func 147) #[] #[],.func (.func 148) #[] #[]]
theorem cF {g:Nat} {w:World} (xs:List Wnt) (h:w.rangeAt g 0 wsV):Oq g (wsR xs) w:=by
 intro k r hk;have hk8:k<4:=(List.getElem?_eq_some_iff.1 hk).1;have hc:k=0∨k=1∨k=2∨k=3:=by omega
 rcases hc with rfl | rfl | rfl | rfl
 ·cases hk;simpa using h 0 _ rfl
 ·cases hk;simpa using h 1 _ rfl
 ·cases hk;simpa using h 2 _ rfl
 ·cases hk;simpa using h 3 _ rfl
theorem Lj (w:World) :
  Calls Tryz.prog 135 #[] w fun e w'=>e=.returned (.slice (some ⟨w.heap.size,0,none⟩) 4 4)∧w'.rangeAt w.heap.size 0 wsV∧w.heap.size<w'.heap.size∧Below w.heap.size w w':=by
 go_enter Tryz.func135,Tryz.ntmps135;go_wp2_with fail;go_ret;refine ⟨rfl,?_,?_,?_⟩
 ·exact Aj (by simp) (Aj (by simp) (Aj (by simp) (Aj (by simp) (Cc _ _ _))))
 ·simp
 ·go_grown
theorem Lm (xs:List Wnt) (a:OA) (cap lo:Nat) (w:World) (hin:SliceC WntC 7 lo w a xs) (hsm:xs.length≤1048576) :
  Calls Tryz.prog 124 #[.slice a xs.length cap] w (Rt (.bool (wsB xs)) w):=by
 have HI:=iH hin;clear hin;go_enter Tryz.func124,Tryz.ntmps124;go_wp2_with fail;refine (Lj _).mono ?_;rintro e w1 ⟨rfl,hr1,hg1,hb1⟩;have HR1:=iH hr1;clear hr1;go_wp2_with fail;refine (Zy xs a cap (wsR xs) w.heap.size 4 w1 (by simp [wsR]) (fun k r h v hv=>Xy xs a cap lo w1 (HI.out.below WntC.holds hb1 nL) hsm k r h v hv) (Ud xs) (cF xs HR1) hg1).mono ?_;rintro e w2 ⟨rfl,hb2⟩;have hB2:=qTr hb1 hb2;clear hb1 hb2;rw [aQ];go_wp2_with fail;go_ret;exact ⟨rfl,hB2⟩
theorem cP {xs:List Wnt} {k:Nat} {x:Wnt} (h:xs[k]?=some x) (hr:wnB x=false):wsB xs=false:=by
 unfold wsB;rw [aC h hr];simp
theorem bD {xs:List Wnt} {k:Nat} (hk:k<xs.length) (h:Hj (xs.map (·.copy)) k=false):wsB xs=false:=by
 unfold wsB;rw [Cz h _ hk];simp
theorem bI {xs:List Wnt} {k:Nat} (hk:k<xs.length) (h:Sn (xs.map (·.hold)) k=false):wsB xs=false:=by
 unfold wsB;rw [Hg h _ hk];simp
theorem bG {xs:List Wnt} (hl:xs.length≤10) (ha:Aw (xs.map (·.copy)) xs.length=true) (h:∀ (j:Nat) x,j<xs.length→xs[j]?=some x→wnB x=true) (hd:Ee (xs.map (·.hold)) xs.length=true):wsB xs=true:=by
 unfold wsB;rw [Vb h,ha,hd,decide_eq_true hl];rfl
theorem Lx {hs:List BA} {h:BA}:∀ k,(∀ p,p<k→hs[p]?≠some h)→Fn h (hR hs k)=0
 | 0,_=>rfl
 | k+1,hp=>by
  have ih:=Lx k (fun p hk=>hp p (by omega));unfold hR
  split
  ·rename_i g hg
   rw [Gw (fun e=>hp k (by omega) (by rw [hg,e])),ih]
  ·exact ih
theorem Vx {hs:List BA} {h:BA} {p:Nat} (hp:hs[p]?=some h):∀ k,p<k→Fn h (hR hs k)≠0
 | 0,hk=>absurd hk (Nat.not_lt_zero _)
 | k+1,hk=>by
  by_cases e:p=k
  ·subst e
   rw [Vm hp,Gm];omega
  ·have ih:=Vx hp k (by omega)
   unfold hR
   split
   ·rename_i g hg
    by_cases e2:g=h
    ·subst e2;rw [Gm];omega
    ·rw [Gw e2];exact ih
   ·exact ih
theorem Lk (xs:List Wnt) (a:OA) (cap lo:Nat) (w:World) (hin:SliceC WntC 7 lo w a xs) (hsm:xs.length≤1048576) :
  Calls Tryz.prog 52 #[.slice a xs.length cap] w (Rt (.bool (wsB xs)) w):=by
 have HI:=iH hin;clear hin;by_cases hl:xs.length≤10
 case neg =>
  have hl':(10:Int)<xs.length:=by omega
  have HE:Hid (wsB xs=false):=by show _=_;unfold wsB;rw [decide_eq_false hl];rfl
  clear hl;go_enter Tryz.func52,Tryz.ntmps52;go_wp2_with fail;go_ret;exact ⟨Ac HE.out.symm,by go_grown⟩
 have hl':(xs.length:Int)≤10:=by omega
 go_enter Tryz.func52,Tryz.ntmps52;go_wp2_with fail;go_loopw [3] (fun i wr=>∃ k:Nat,k≤xs.length∧i=.int .i64 k∧Hid (∀ (j:Nat) x,j<k→xs[j]?=some x→wnB x=true)∧Hid (Aw (xs.map (·.copy)) k=true)∧Hid (Ee (xs.map (·.hold)) k=true)∧Below w.heap.size w wr) (fun i _=>xs.length - (intOf i).toNat)
 case atStart=>exact ⟨0,zL,rfl,fun j q h=>by omega,rfl,rfl,by go_grown⟩
 case round =>
  obtain ⟨k,hk,rfl,hN,hA,hD,hB⟩:=hrel;by_cases hlt:k<xs.length
  ·obtain ⟨y,hy⟩:=gXe hlt
   have HIR:=qSl WntC.holds HI hB;obtain ⟨b,o,rfl,_,hbl,hc⟩:=HIR.out.at hy;have hz:=hc;obtain ⟨_,_,_,_,_,_,_,z0,z2⟩:=hz;have HRY:=iH (Du hc);have Z0:=iH z0;have Z2:=iH z2;have HYY:=iH hy;have HB:=iH hB;clear z0 z2 hc hy hB
   cases hro:wnB y with
   | false =>
    have HE:=iH (cP HYY hro);have HRO:=iH hro;clear hro HIR;go_wp2_with fail;refine wp_region_held_drew (S:=fun wy=>wy.rangeAt b (o+k*7) (wwL y)) (by kernel_rfl) (Cf HRY) (fun hS=>?_);refine tz 0 14 (.slice (some ⟨b,o,none⟩) xs.length cap) rfl hS ?_;simp only [pX];refine tz 1 15 (.int .i64 ((k:Nat):Int)) rfl hS ?_;simp only [pX];refine ty 2 ⟨some 16,_,_,_,_,none⟩ (.pointer (some ⟨b,o+k*7,none⟩)) rfl (by rfl) ?_ hS ?_
    ·intro wy hy
     clear hy
     first | (go_simp;done) | (go_simp;intro hh;omega)
    simp only [pX];refine tm 3 17 b (o+k*7) (wwL y) rfl (fun _ h=>h) Tryz.underlying86 Au hS ?_;simp only [pX];refine rd1 4 ⟨some 18,_,_,_,_,none⟩ rfl (fun K hK=>?_);go_simp;refine (Ge y _ Z0 Z2).mono ?_;rintro e w5 ⟨rfl,hb⟩;have HB5:=iH (HB.out.trans (((Below.refl wr.heap.size wr).drew.trans hb).mono HB.out.size));refine hK.out _ _ (Ba hS hb hbl) (fun hS=>?_);clear hK K;rw [HRO.out];clear hb;refine tz 5 19 (.bool true) rfl hS ?_;simp only [pX];refine tz 6 20 (.bool true) rfl hS ?_;simp only [pX];refine ts 7 21 rfl hS ?_;simp only [pX];refine ts 8 22 rfl hS ?_;simp only [pX];refine ts 9 23 rfl hS ?_;simp only [pX];refine ts 10 24 rfl hS ?_;simp only [pX];refine ts 11 25 rfl hS ?_;simp only [pX];refine ts 12 26 rfl hS ?_;simp only [pX];refine ts 13 27 rfl hS ?_;simp only [pX];refine ts 14 28 rfl hS ?_;simp only [pX];refine ts 15 29 rfl hS ?_;simp only [pX];refine ts 16 30 rfl hS ?_;simp only [pX];refine ts 17 31 rfl hS ?_;simp only [pX];refine ts 18 32 rfl hS ?_;simp only [pX];refine ts 19 33 rfl hS ?_;simp only [pX];refine ts 20 34 rfl hS ?_;simp only [pX];refine ts 21 35 rfl hS ?_;simp only [pX];refine ts 22 36 rfl hS ?_;simp only [pX];refine tz 23 37 (.bool true) rfl hS ?_;simp only [pX];refine td ?_;clear hS;go_wp2_with fail;go_ret;exact ⟨Ac HE.out.symm,HB5⟩
   | true =>
    have HRO:=iH hro;have HN2:Hid (∀ (j:Nat) z,j<k+1→xs[j]?=some z→wnB z=true):=fun j z hj hz=>by
     by_cases e:j=k
     ·subst e
      have:=HYY.out.symm.trans hz;cases this
      exact hro
     ·exact hN.out j z (by omega) hz
    clear hro
    cases k with
    | zero =>
     have HA2:Hid (Aw (xs.map (·.copy)) (0+1)=true):=rfl;clear HIR;go_wp2_with fail;refine wp_region_held_drew (S:=fun wy=>wy.rangeAt b (o+0*7) (wwL y)) (by kernel_rfl) (Cf HRY) (fun hS=>?_);refine tz 0 14 (.slice (some ⟨b,o,none⟩) xs.length cap) rfl hS ?_;simp only [pX];refine tz 1 15 (.int .i64 ((0:Nat):Int)) rfl hS ?_;simp only [pX];refine ty 2 ⟨some 16,_,_,_,_,none⟩ (.pointer (some ⟨b,o+0*7,none⟩)) rfl (by rfl) ?_ hS ?_
     ·intro wy hy
      clear hy
      first | (go_simp;done) | (go_simp;intro hh;omega)
     simp only [pX];refine tm 3 17 b (o+0*7) (wwL y) rfl (fun _ h=>h) Tryz.underlying86 Au hS ?_;simp only [pX];refine rd1 4 ⟨some 18,_,_,_,_,none⟩ rfl (fun K hK=>?_);go_simp;refine (Ge y _ Z0 Z2).mono ?_;rintro e w5 ⟨rfl,hb⟩;have HB5:=iH (HB.out.trans (((Below.refl wr.heap.size wr).drew.trans hb).mono HB.out.size));refine hK.out _ _ (Ba hS hb hbl) (fun hS=>?_);clear hK K;rw [HRO.out];clear hb;refine tz 5 19 (.bool false) rfl hS ?_;simp only [pX];refine tz 6 20 (.bool false) rfl hS ?_;simp only [pX];refine tz 7 21 (.int .i64 ((0:Nat):Int)) rfl hS ?_;simp only [pX];refine tz 8 22 (.bool false) rfl hS ?_;simp only [pX];refine tz 9 23 (.bool false) rfl hS ?_;simp only [pX];refine ts 10 24 rfl hS ?_;simp only [pX];refine ts 11 25 rfl hS ?_;simp only [pX];refine ts 12 26 rfl hS ?_;simp only [pX];refine ts 13 27 rfl hS ?_;simp only [pX];refine ts 14 28 rfl hS ?_;simp only [pX];refine ts 15 29 rfl hS ?_;simp only [pX];refine ts 16 30 rfl hS ?_;simp only [pX];refine ts 17 31 rfl hS ?_;simp only [pX];refine ts 18 32 rfl hS ?_;simp only [pX];refine ts 19 33 rfl hS ?_;simp only [pX];refine ts 20 34 rfl hS ?_;simp only [pX];refine ts 21 35 rfl hS ?_;simp only [pX];refine tz 22 36 (.bool false) rfl hS ?_;simp only [pX];refine tz 23 37 (.bool false) rfl hS ?_;simp only [pX];refine td ?_;clear hS;clear HRY HB hbl HRO hN hA;have HSY:Hid ((xs.map (·.hold))[0]?=some y.hold):=by show _=_;rw [List.getElem?_map,HYY.out];rfl
     have HDA:=iH (Ni HSY);have HB5':=HB5.out;clear HB5;go_wp2_with fail;go_loopw [4] (fun j wx=>∃ q:Nat,q≤0∧j=.int .i64 q∧Hid (y.hold.toList=[]∨∀ p,p<q→(xs.map (·.hold))[p]?≠some y.hold)∧Below w.heap.size w wx) (fun j _=>0 - (intOf j).toNat)
     case atStart=>exact ⟨0,zL,rfl,.inr (fun p h=>by omega),HB5'⟩
     case round =>
      clear HB5';obtain ⟨q,hq,rfl,hP,hB⟩:=hrel;by_cases hqk:q<0
      ·omega
      ·have hke:q=0:=by omega
       subst hke;have HD2:Hid (Ee (xs.map (·.hold)) (0+1)=true):=by
        show _=_
        rw [Ee,hD.out,HDA.out];rcases hP.out with h | h
        ·rw [h];rfl
        ·rw [Lx _ h];simp
       go_wp2_with fail;go_roundw
       case rel=>exact ⟨0+1,by omega,by go_num,HN2,HA2,HD2,hB⟩
       case measure=>simp [intOf];omega
    | succ m =>
     obtain ⟨x,hx⟩:∃ x,xs[m]?=some x:=⟨xs[m],gE (by omega)⟩;obtain ⟨b',o',e',_,_,hcx⟩:=HIR.out.at hx;cases e'
     have HRX:=iH (Du hcx);have HQA:=iH (Eo (ns:=xs.map (·.copy)) (m:=m) (s:=x.copy) (t:=y.copy) (by rw [List.getElem?_map,hx];rfl) (by rw [List.getElem?_map,HYY.out];rfl));generalize hq:Op.bytesLess x.copy.toList y.copy.toList=Q at HQA;have HQ:=iH hq;clear hq hx hcx HIR;go_wp2_with fail;refine wp_region_held_drew (S:=fun wy=>wy.rangeAt b (o+(m+1)*7) (wwL y)∧wy.rangeAt b (o+m*7) (wwL x)) (by kernel_rfl) (⟨Cf HRY,Cf HRX⟩) (fun hS=>?_);refine tz 0 14 (.slice (some ⟨b,o,none⟩) xs.length cap) rfl hS ?_;simp only [pX];refine tz 1 15 (.int .i64 ((m:Int)+1)) rfl hS ?_;simp only [pX];refine ty 2 ⟨some 16,_,_,_,_,none⟩ (.pointer (some ⟨b,o+(m+1)*7,none⟩)) rfl (by rfl) ?_ hS ?_
     ·intro wy hy
      clear hy
      first | (go_simp;done) | (go_simp;intro hh;omega)
     simp only [pX];refine tk 3 ⟨some 17,_,_,_,_,none⟩ (.agg (wwA y)) rfl (yieldsIf_load_mid (by rfl) _ _ rfl b (o+(m+1)*7) rfl (wwL y) _ (fun _ h=>h.1) Tryz.underlying86 rfl Au) hS ?_;simp only [pX];refine rd1 4 ⟨some 18,_,_,_,_,none⟩ rfl (fun K hK=>?_);go_simp;refine (Ge y _ Z0 Z2).mono ?_;rintro e w5 ⟨rfl,hb⟩;have HB5:=iH (HB.out.trans (((Below.refl wr.heap.size wr).drew.trans hb).mono HB.out.size));refine hK.out _ _ ⟨Ba hS.1 hb hbl,Ba hS.2 hb hbl⟩ (fun hS=>?_);clear hK K;rw [HRO.out];clear hb;refine tz 5 19 (.bool false) rfl hS ?_;simp only [pX];refine tz 6 20 (.bool false) rfl hS ?_;simp only [pX];refine tz 7 21 (.int .i64 ((m:Int)+1)) rfl hS ?_;simp only [pX];refine tz 8 22 (.bool true) rfl hS ?_;simp only [pX];refine tz 9 23 (.bool true) rfl hS ?_;simp only [pX];refine tz 10 24 (.slice (some ⟨b,o,none⟩) xs.length cap) rfl hS ?_;simp only [pX];refine tz 11 25 (.int .i64 ((m:Int)+1)) rfl hS ?_;simp only [pX];refine ty 12 ⟨some 26,_,_,_,_,some (9,true)⟩ (.int .i64 (m:Int)) rfl (by rfl) ?_ hS ?_
     ·intro wy hy
      clear hy;go_simp;rw [IntKind.wrap_i64];omega
     simp only [pX];refine ty 13 ⟨some 27,_,_,_,_,some (9,true)⟩ (.pointer (some ⟨b,o+m*7,none⟩)) rfl (by rfl) ?_ hS ?_
     ·intro wy hy
      clear hy
      first | (go_simp;done) | (go_simp;intro hh;omega)
     simp only [pX];refine tz 14 28 (.pointer (some ⟨b,o+m*7,none⟩)) rfl hS ?_;simp only [pX];refine ty 15 ⟨some 29,_,_,_,_,some (9,true)⟩ (.string x.copy) rfl (by rfl) ?_ hS ?_
     ·intro wy hy
      have h0:=hy.2 0 _ rfl;simp only [Nat.add_zero] at h0;clear hy;go_simp
     simp only [pX];refine tz 16 30 (.slice (some ⟨b,o,none⟩) xs.length cap) rfl hS ?_;simp only [pX];refine tz 17 31 (.int .i64 ((m:Int)+1)) rfl hS ?_;simp only [pX];refine ty 18 ⟨some 32,_,_,_,_,some (9,true)⟩ (.pointer (some ⟨b,o+(m+1)*7,none⟩)) rfl (by rfl) ?_ hS ?_
     ·intro wy hy
      clear hy
      first | (go_simp;done) | (go_simp;intro hh;omega)
     simp only [pX];refine tz 19 33 (.pointer (some ⟨b,o+(m+1)*7,none⟩)) rfl hS ?_;simp only [pX];refine ty 20 ⟨some 34,_,_,_,_,some (9,true)⟩ (.string y.copy) rfl (by rfl) ?_ hS ?_
     ·intro wy hy
      have h0:=hy.1 0 _ rfl;simp only [Nat.add_zero] at h0;clear hy;go_simp
     simp only [pX];refine ty 21 ⟨some 35,_,_,_,_,some (9,true)⟩ (.bool (!Q)) rfl (by rfl) ?_ hS ?_
     ·intro wy hy
      clear hy;go_simp;rw [HQ.out]
     simp only [pX];refine tz 22 36 (.bool (!Q)) rfl hS ?_;simp only [pX];refine tz 23 37 (.bool (!Q)) rfl hS ?_;simp only [pX];refine td ?_;clear hS
     cases Q with
     | false =>
      have HE:=iH (bD hlt HQA);go_wp2_with fail;go_ret;exact ⟨Ac HE.out.symm,HB5⟩
     | true =>
      have HA2:Hid (Aw (xs.map (·.copy)) (m+1+1)=true):=by show _=_;rw [Aw,hA.out,HQA.out];rfl
      clear HRY HRX HB hbl HRO hN hA HQA HQ;simp only [Bool.not_true];have HSY:Hid ((xs.map (·.hold))[(m+1)]?=some y.hold):=by show _=_;rw [List.getElem?_map,HYY.out];rfl
      have HDA:=iH (Ni HSY);have HB5':=HB5.out;clear HB5;go_wp2_with fail;go_loopw [4] (fun j wx=>∃ q:Nat,q≤(m+1)∧j=.int .i64 q∧Hid (y.hold.toList=[]∨∀ p,p<q→(xs.map (·.hold))[p]?≠some y.hold)∧Below w.heap.size w wx) (fun j _=>(m+1) - (intOf j).toNat)
      case atStart=>exact ⟨0,zL,rfl,.inr (fun p h=>by omega),HB5'⟩
      case round =>
       clear HB5';obtain ⟨q,hq,rfl,hP,hB⟩:=hrel;by_cases hqk:q<(m+1)
       ·obtain ⟨z,hz⟩:∃ z,xs[q]?=some z:=⟨xs[q],gE (by omega)⟩
        have HSZ:Hid ((xs.map (·.hold))[q]?=some z.hold):=by show _=_;rw [List.getElem?_map,hz];rfl
        have HIR:=HI.out.below WntC.holds hB nL;obtain ⟨b1,o1,e1,_,_,hcz⟩:=HIR.at hz;cases e1
        obtain ⟨b2,o2,e2,_,_,hcy⟩:=HIR.at HYY;cases e2
        obtain ⟨_,_,c2,_⟩:=hcz;obtain ⟨_,_,c1,_⟩:=hcy;clear HIR hz;by_cases hh:y.hold.toList=[]
        ·have HP2:Hid (y.hold.toList=[]∨∀ p,p<q+1→(xs.map (·.hold))[p]?≠some y.hold):=.inl hh
         go_wp2_with fail;refine wp_region_held_drew (S:=fun wy=>wy.cell? ⟨b,o+(m+1)*7+2,none⟩=some (.string y.hold)∧wy.cell? ⟨b,o+q*7+2,none⟩=some (.string z.hold)) (by kernel_rfl) ⟨by simpa using c1,by simpa using c2⟩ (fun hS=>?_);refine tz 0 43 (.slice (some ⟨b,o,none⟩) xs.length cap) rfl hS ?_;simp only [pX];refine tz 1 44 (.int .i64 ((m:Int)+1)) rfl hS ?_;simp only [pX];refine ty 2 ⟨some 45,_,_,_,_,none⟩ (.pointer (some ⟨b,o+(m+1)*7,none⟩)) rfl (by rfl) ?_ hS ?_
         ·intro wy hy
          clear hy
          first | (go_simp;done) | (go_simp;intro hh;omega)
         simp only [pX];refine tz 3 46 (.pointer (some ⟨b,o+(m+1)*7+2,none⟩)) rfl hS ?_;simp only [pX];refine ty 4 ⟨some 47,_,_,_,_,none⟩ (.string y.hold) rfl (by rfl) ?_ hS ?_
         ·intro wy hy
          have h0:=hy.1;clear hy;go_simp
         simp only [pX];refine ty 5 ⟨some 48,_,_,_,_,none⟩ (.bool false) rfl (by rfl) ?_ hS ?_
         ·intro wy hy
          clear hy
          first | (go_simp;done) | (go_simp;simpa using hh)
         simp only [pX];refine tz 6 49 (.bool false) rfl hS ?_;simp only [pX];refine ts 7 50 rfl hS ?_;simp only [pX];refine ts 8 51 rfl hS ?_;simp only [pX];refine ts 9 52 rfl hS ?_;simp only [pX];refine ts 10 53 rfl hS ?_;simp only [pX];refine ts 11 54 rfl hS ?_;simp only [pX];refine ts 12 55 rfl hS ?_;simp only [pX];refine ts 13 56 rfl hS ?_;simp only [pX];refine ts 14 57 rfl hS ?_;simp only [pX];refine ts 15 58 rfl hS ?_;simp only [pX];refine ts 16 59 rfl hS ?_;simp only [pX];refine ts 17 60 rfl hS ?_;simp only [pX];refine tz 18 61 (.bool false) rfl hS ?_;simp only [pX];refine td ?_;clear hS;clear hh;go_wp2_with fail;go_roundw
         case rel=>exact ⟨q+1,by omega,by go_num,HP2,by go_grown⟩
         case measure=>simp [intOf];omega
        ·have HHH:=iH hh
         generalize hE:(z.hold.toList == y.hold.toList)=E;have HQ:=iH hE;go_wp2_with fail;refine wp_region_held_drew (S:=fun wy=>wy.cell? ⟨b,o+(m+1)*7+2,none⟩=some (.string y.hold)∧wy.cell? ⟨b,o+q*7+2,none⟩=some (.string z.hold)) (by kernel_rfl) ⟨by simpa using c1,by simpa using c2⟩ (fun hS=>?_);refine tz 0 43 (.slice (some ⟨b,o,none⟩) xs.length cap) rfl hS ?_;simp only [pX];refine tz 1 44 (.int .i64 ((m:Int)+1)) rfl hS ?_;simp only [pX];refine ty 2 ⟨some 45,_,_,_,_,none⟩ (.pointer (some ⟨b,o+(m+1)*7,none⟩)) rfl (by rfl) ?_ hS ?_
         ·intro wy hy
          clear hy
          first | (go_simp;done) | (go_simp;intro hh;omega)
         simp only [pX];refine tz 3 46 (.pointer (some ⟨b,o+(m+1)*7+2,none⟩)) rfl hS ?_;simp only [pX];refine ty 4 ⟨some 47,_,_,_,_,none⟩ (.string y.hold) rfl (by rfl) ?_ hS ?_
         ·intro wy hy
          have h0:=hy.1;clear hy;go_simp
         simp only [pX];refine ty 5 ⟨some 48,_,_,_,_,none⟩ (.bool true) rfl (by rfl) ?_ hS ?_
         ·intro wy hy
          clear hy
          first | (go_simp;done) | (go_simp;simpa using hh)
         simp only [pX];refine tz 6 49 (.bool true) rfl hS ?_;simp only [pX];refine tz 7 50 (.slice (some ⟨b,o,none⟩) xs.length cap) rfl hS ?_;simp only [pX];refine tz 8 51 (.int .i64 (q:Int)) rfl hS ?_;simp only [pX];refine ty 9 ⟨some 52,_,_,_,_,some (6,true)⟩ (.pointer (some ⟨b,o+q*7,none⟩)) rfl (by rfl) ?_ hS ?_
         ·intro wy hy
          clear hy
          first | (go_simp;done) | (go_simp;intro hh;omega)
         simp only [pX];refine tz 10 53 (.pointer (some ⟨b,o+q*7+2,none⟩)) rfl hS ?_;simp only [pX];refine ty 11 ⟨some 54,_,_,_,_,some (6,true)⟩ (.string z.hold) rfl (by rfl) ?_ hS ?_
         ·intro wy hy
          have h0:=hy.2;clear hy;go_simp
         simp only [pX];refine tz 12 55 (.slice (some ⟨b,o,none⟩) xs.length cap) rfl hS ?_;simp only [pX];refine tz 13 56 (.int .i64 ((m:Int)+1)) rfl hS ?_;simp only [pX];refine ty 14 ⟨some 57,_,_,_,_,some (6,true)⟩ (.pointer (some ⟨b,o+(m+1)*7,none⟩)) rfl (by rfl) ?_ hS ?_
         ·intro wy hy
          clear hy
          first | (go_simp;done) | (go_simp;intro hh;omega)
         simp only [pX];refine tz 15 58 (.pointer (some ⟨b,o+(m+1)*7+2,none⟩)) rfl hS ?_;simp only [pX];refine ty 16 ⟨some 59,_,_,_,_,some (6,true)⟩ (.string y.hold) rfl (by rfl) ?_ hS ?_
         ·intro wy hy
          have h0:=hy.1;clear hy;go_simp
         simp only [pX];refine ty 17 ⟨some 60,_,_,_,_,some (6,true)⟩ (.bool E) rfl (by rfl) ?_ hS ?_
         ·intro wy hy
          clear hy
          first | (go_simp;done) | (go_simp;exact HQ.out) | (go_simp;rw [HQ.out])
         simp only [pX];refine tz 18 61 (.bool E) rfl hS ?_;simp only [pX];refine td ?_;clear hS
         cases E with
         | true =>
          have hzy:z.hold=y.hold:=Classical.byContradiction fun h=>by rw [Lg h] at hE;cases hE
          have HE:Hid (wsB xs=false):=bI hlt (by
           rw [HDA.out,show (y.hold.toList == [])=false by simp [HHH.out],Bool.false_or]
           exact decide_eq_false (Vx (by rw [← hzy];exact HSZ.out) _ hqk))
          clear hzy hE HQ;go_wp2_with fail;go_ret;exact ⟨Ac HE.out.symm,by go_grown⟩
         | false =>
          have HP2:Hid (y.hold.toList=[]∨∀ p,p<q+1→(xs.map (·.hold))[p]?≠some y.hold):=.inr (fun p hp hs=>by
           by_cases e:p=q
           ·subst e
            have:=HSZ.out.symm.trans hs;have:z.hold=y.hold:=by simpa using this
            rw [dF this] at hE;cases hE
           ·exact (hP.out.resolve_left HHH) p (by omega) hs)
          clear hE HQ;go_wp2_with fail;go_roundw
          case rel=>exact ⟨q+1,by omega,by go_num,HP2,by go_grown⟩
          case measure=>simp [intOf];omega
       ·have hke:q=(m+1):=by omega
        subst hke;have HD2:Hid (Ee (xs.map (·.hold)) ((m+1)+1)=true):=by
         show _=_
         rw [Ee,hD.out,HDA.out];rcases hP.out with h | h
         ·rw [h];rfl
         ·rw [Lx _ h];simp
        go_wp2_with fail;go_roundw
        case rel=>exact ⟨(m+1)+1,by omega,by go_num,HN2,HA2,HD2,hB⟩
        case measure=>simp [intOf];omega
  ·have hke:k=xs.length:=by omega
   subst hke;have HE:=iH (bG hl hA.out hN.out hD.out);go_wp2_with fail;go_ret;exact ⟨Ac HE.out.symm,hB⟩
end Go.Proofs.YtkiloaiffopllaaGreat
