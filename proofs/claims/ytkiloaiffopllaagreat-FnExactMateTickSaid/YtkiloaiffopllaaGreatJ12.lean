import Derived.Test.YtkiloaiffopllaaGreatMt8
import Derived.Shelf.Strconv.Clone
set_option maxHeartbeats 4000000
set_option maxRecDepth 100000
namespace Go.Proofs.YtkiloaiffopllaaGreat
open Go.RowKit
theorem Hb (x:Aks) (w:World) :
  Calls Tryz.prog 84 #[.agg (aaA x)] w (Rt (.string x.hold) w):=by
 go_enter Tryz.func84,Tryz.ntmps84;go_wp2_with fail;go_ret;exact ⟨rfl,by go_grown⟩
theorem Uh (xs:List Aks) (a:OA) (cap lo:Nat) (w:World) (hin:SliceC AksC 4 lo w a xs) (hsm:xs.length≤1048576) :
  Calls Tryz.prog 138 #[.slice a xs.length cap,.func (.func 84) #[] #[]] w (Rt (.bool (Aw (xs.map (·.hold)) xs.length)) w):=by
 have HI:=iH hin;clear hin;go_enter Tryz.func138,Tryz.ntmps138;go_wp2_with fail;go_loopw [5] (fun i wr=>∃ m:Nat,(m=0∨m+1≤xs.length)∧i=.int .i64 ((m:Int)+1)∧Hid (Aw (xs.map (·.hold)) (m+1)=true)∧Below w.heap.size w wr) (fun i _=>xs.length+1 - (intOf i).toNat)
 case atStart=>exact ⟨0,.inl rfl,rfl,rfl,by go_grown⟩
 case round =>
  obtain ⟨m,hm,rfl,ho,hbel⟩:=hrel;by_cases hlt:m+1<xs.length
  ·obtain ⟨x,hx⟩:∃ x,xs[m]?=some x:=⟨xs[m],gE (by omega)⟩
   obtain ⟨y,hy⟩:∃ y,xs[m+1]?=some y:=⟨xs[m+1],gE (by omega)⟩;have HIR:=HI.out.below AksC.holds hbel nL;obtain ⟨b,o,rfl,_,_,hc⟩:=HIR.at hx;obtain ⟨b',o',e',_,_,hc'⟩:=HIR.at hy;cases e'
   obtain ⟨q0,q1,q2,q3,_,_⟩:=hc;obtain ⟨r0,r1,r2,r3,_,_⟩:=hc';simp only [Nat.add_zero] at q0 q1 q2 q3 r0 r1 r2 r3;have HA:Hid (Hj (xs.map (·.hold)) (m+1)=Op.bytesLess x.hold.toList y.hold.toList):=Eo (by rw [List.getElem?_map,hx];rfl) (by rw [List.getElem?_map,hy];rfl);have k0:=cell_regrown q0;have l0:=cell_regrown r0;have k1:=cell_regrown q1;have l1:=cell_regrown r1;have k2:=cell_regrown q2;have l2:=cell_regrown r2;have k3:=cell_regrown q3;have l3:=cell_regrown r3;have cX:∀ d os,Calls Tryz.prog 84 #[.agg (aaA x)] (Sort.grow (redrawn wr d) os) fun e w''=>e=.returned (.string x.hold)∧∃ p:Regrown,w''=Sort.grow (redrawn wr p.d) p.os:=fun d os=>Calls.regrown_of (Hb x _)
   have cY:∀ d os,Calls Tryz.prog 84 #[.agg (aaA y)] (Sort.grow (redrawn wr d) os) fun e w''=>e=.returned (.string y.hold)∧∃ p:Regrown,w''=Sort.grow (redrawn wr p.d) p.os:=fun d os=>Calls.regrown_of (Hb y _)
   have i0:(0:Int)≤(m:Int):=by omega
   have i1:(m:Int)<(xs.length:Int):=by omega
   have i2:(0:Int)≤(m:Int)+1:=by omega
   have i3:(m:Int)+1<(xs.length:Int):=by omega
   clear hx hy q0 q1 q2 q3 r0 r1 r2 r3 HIR;have HWM:Hid (IntKind.i64.wrap (m:Int)=(m:Int)):=by show _=_;rw [IntKind.wrap_i64];omega
   have HLT:=iH hlt;generalize hq:Op.bytesLess x.hold.toList y.hold.toList=Q at HA;have HQ:=iH hq;clear hq hlt;go_wp2_with fail;refine wp_region_quiet_below (by kernel_rfl) (by kernel_rfl) ?_
   repeat (quiet_step (first | exact cX _ _ | exact cY _ _))
   rw [HWM.out]
   repeat (quiet_step (first | exact cX _ _ | exact cY _ _))
   refine wpQuiet_nil ?_;intro _ hw';obtain ⟨⟨dq,osq⟩,hw''⟩:=hw';have hB:=hbel.trans ((below_regrown wr dq osq).mono hbel.size);simp only [] at hw'';rw [← hw''] at hB;clear hw'' cX cY k0 l0 k1 l1 k2 l2 k3 l3;rw [HQ.out]
   cases Q with
   | false =>
    have HE:=iH (Cz HA _ HLT);go_wp2_with fail;go_ret;exact ⟨Ac HE.out.symm,hB⟩
   | true =>
    have HE:Hid (Aw (xs.map (·.hold)) (m+1+1)=true):=by show _=_;rw [Aw,ho.out,HA.out];rfl
    have hlt:=HLT.out;go_wp2_with fail;go_roundw
    case rel=>exact ⟨m+1,.inr (by omega),by go_num,HE,hB⟩
    case measure=>simp [intOf];omega
  ·have HE:Hid (Aw (xs.map (·.hold)) xs.length=true):=by
    rcases (show m+1=xs.length∨xs.length=0 by omega) with e | e
    ·rw [← e];exact ho.out
    ·rw [e];rfl
   go_wp2_with fail;go_ret;exact ⟨Ac HE.out.symm,hbel⟩
def akB (x:Aks) (c:Int):Bool:=hdB x.hold && nmB x.copy && inR x.at_ 0 c && inR x.first 0 x.at_
def Ea (xs:List Aks) (c:Int):Bool:=decide (xs.length≤40) && (Aw (xs.map (·.hold)) xs.length && xs.all (akB · c))
theorem Fk {xs:List Aks} {c:Int} {k:Nat} {x:Aks} (h:xs[k]?=some x) (hr:akB x c=false):Ea xs c=false:=by
 have:xs.all (akB · c)=false:=by
  rw [List.all_eq_false];exact ⟨x,List.mem_of_getElem? h,by simp [hr]⟩
 unfold Ea;rw [this,Bool.and_false,Bool.and_false]
theorem Qz {xs:List Aks} {c:Int} (hl:xs.length≤40) (ha:Aw (xs.map (·.hold)) xs.length=true) (h:∀ (j:Nat) x,j<xs.length→xs[j]?=some x→akB x c=true):Ea xs c=true:=by
 have:xs.all (akB · c)=true:=by
  rw [List.all_eq_true];intro r hr;obtain ⟨j,hj,e⟩:=List.getElem_of_mem hr;exact h j r hj (by rw [gE hj,e])
 unfold Ea;rw [this,ha,decide_eq_true hl];rfl
theorem Ye {xs:List Aks} {c:Int} {k:Nat} (hk:k<xs.length) (h:Hj (xs.map (·.hold)) k=false):Ea xs c=false:=by
 unfold Ea;rw [Cz h _ hk];simp
theorem Dh {lo:Nat} {w:World} {b o:Nat} {x:Aks} (h:AksC lo w (fun i=>w.cell? ⟨b,o+i,none⟩) x):w.rangeAt b o (aaL x):=by
 obtain ⟨q0,q1,q2,q3,_,_⟩:=h;simp only [Nat.add_zero] at q0 q1 q2 q3;exact Aj q0 (Aj q1 (Aj q2 (Aj q3 (Cc _ _ _))))
theorem Hh (xs:List Aks) (a:OA) (cap lo:Nat) (c:Int) (w:World) (hin:SliceC AksC 4 lo w a xs) (hsm:xs.length≤1048576) :
  Calls Tryz.prog 126 #[.slice a xs.length cap,.int .i64 c] w (Rt (.bool (Ea xs c)) w):=by
 have HI:=iH hin;clear hin;by_cases hl:xs.length≤40
 case neg =>
  have hl':(40:Int)<xs.length:=by omega
  have HE:Hid (Ea xs c=false):=by show _=_;unfold Ea;rw [decide_eq_false hl];rfl
  clear hl;go_enter Tryz.func126,Tryz.ntmps126;go_wp2_with fail;go_ret;exact ⟨Ac HE.out.symm,by go_grown⟩
 have hl':(xs.length:Int)≤40:=by omega
 go_enter Tryz.func126,Tryz.ntmps126;go_wp2_with fail;refine (Uh xs a cap lo _ HI hsm).mono ?_;rintro e w1 ⟨rfl,hb1⟩
 cases hasc:Aw (xs.map (·.hold)) xs.length with
 | false =>
  have HE:Hid (Ea xs c=false):=by show _=_;unfold Ea;rw [hasc];simp
  go_wp2_with fail;go_ret;exact ⟨Ac HE.out.symm,hb1⟩
 | true =>
  have HASC:=iH hasc;clear hasc;go_wp2_with fail;go_loopw [17] (fun i wr=>∃ k:Nat,k≤xs.length∧i=.int .i64 k∧Hid (∀ (j:Nat) x,j<k→xs[j]?=some x→akB x c=true)∧Below w.heap.size w wr) (fun i _=>xs.length - (intOf i).toNat)
  case atStart=>exact ⟨0,zL,rfl,fun j q h=>by omega,hb1⟩
  case round =>
   clear hb1;obtain ⟨k,hk,rfl,hN,hB⟩:=hrel;by_cases hlt:k<xs.length
   case neg =>
    have hke:k=xs.length:=by omega
    subst hke;have HE:=iH (Qz hl HASC hN.out);go_wp2_with fail;go_ret;exact ⟨Ac HE.out.symm,hB⟩
   obtain ⟨x,hx⟩:=gXe hlt;obtain ⟨b,o,rfl,_,hbl,hc⟩:=(HI.out.below AksC.holds hB nL).at hx;have hz:=hc;obtain ⟨_,_,_,_,z0,z1⟩:=hz;have HRA:=iH (Dh hc);have Z0:=iH z0;have Z1:=iH z1;have HXX:=iH hx;clear hc z0 z1 hx;have hza:=Blk.alloc wr AaA 52;have HTS:Hid ((wr.alloc (Obj.cells AaA 52)).there wr.heap.size 0 4):=hza.there;obtain ⟨w4,HW4⟩:∃ w4,Hid (w4=(wr.alloc (Obj.cells AaA 52)).setCells wr.heap.size 0 (aaL x)):=⟨_,rfl⟩;have HK4:Hid (Blk wr.heap.size (aaA x) 52 w4):=by
    show Blk _ _ _ _
    rw [HW4.out];exact hza.setAll (aaA x) rfl
   have hbx:Below wr.heap.size wr w4:=by
    rw [HW4.out];exact Aa nL _ _ _ ((Below.refl _ wr).alloc nL _)
   have hB4:=qTr hB hbx;clear hza hbx;have k0:w4.cell? ⟨wr.heap.size,0,none⟩=some (.string x.hold):=HK4.out.cell rfl;have k1:w4.cell? ⟨wr.heap.size,1,none⟩=some (.string x.copy):=HK4.out.cell rfl;have k2:w4.cell? ⟨wr.heap.size,2,none⟩=some (.int .i64 x.first):=HK4.out.cell rfl;have k3:w4.cell? ⟨wr.heap.size,3,none⟩=some (.int .i64 x.at_):=HK4.out.cell rfl;go_upto_region 6 with (first | (refine qLr Gd HRA ?_) | (refine Ab rfl 52 _ _ rfl wr.heap.size 0 (aaA x) rfl rfl HTS Bu (by simp [Value.oneCell']) w4 HW4 ?_));clear HRA HTS HW4 HK4;generalize wr.heap.size=g at *;go_wp2_with fail;refine (Pf x.hold _ Z0).mono ?_;rintro e v0 ⟨rfl,rfl⟩
   cases g0:hdB x.hold with
   | false =>
    have HE:=iH (Fk (c:=c) HXX (show akB x c=false by unfold akB;simp [g0]));clear g0;go_wp2_with fail;go_ret;exact ⟨Ac HE.out.symm,hB4⟩
   | true =>
    go_wp2_with fail;refine (Ig x.copy _ Z1).mono ?_;rintro e v1 ⟨rfl,rfl⟩
    cases g1:nmB x.copy with
    | false =>
     have HE:=iH (Fk (c:=c) HXX (show akB x c=false by unfold akB;simp [g1]));clear g0 g1;go_wp2_with fail;go_ret;exact ⟨Ac HE.out.symm,hB4⟩
    | true =>
     go_wp2_with fail;refine (De x.at_ 0 c _).mono ?_;rintro e v2 ⟨rfl,rfl⟩
     cases g2:inR x.at_ 0 c with
     | false =>
      have HE:=iH (Fk (c:=c) HXX (show akB x c=false by unfold akB;simp [g2]));clear g0 g1 g2;go_wp2_with fail;go_ret;exact ⟨Ac HE.out.symm,hB4⟩
     | true =>
      go_wp2_with fail;refine (De x.first 0 x.at_ _).mono ?_;rintro e v3 ⟨rfl,rfl⟩
      cases g3:inR x.first 0 x.at_ with
      | false =>
       have HE:=iH (Fk (c:=c) HXX (show akB x c=false by unfold akB;simp [g3]));clear g0 g1 g2 g3;go_wp2_with fail;go_ret;exact ⟨Ac HE.out.symm,hB4⟩
      | true =>
       have hro:akB x c=true:=by unfold akB;rw [g0,g1,g2,g3];rfl
       clear g0 g1 g2 g3;have HN2:Hid (∀ (j:Nat) y,j<k+1→xs[j]?=some y→akB y c=true):=fun j y hj hy=>by
        by_cases e:j=k
        ·subst e
         have:=HXX.out.symm.trans hy;cases this
         exact hro
        ·exact hN.out j y (by omega) hy
       clear hro;go_wp2_with fail;go_roundw
       case rel=>exact ⟨k+1,by omega,by go_num,HN2,hB4⟩
       case measure=>simp [intOf];omega
end Go.Proofs.YtkiloaiffopllaaGreat
namespace Go.Proofs.YtkiloaiffopllaaGreat
open Go.RowKit Go.WideMaps Go.Maps
def Bn (v:Value):Option (DataW Unit×List MemPlace):=match v with
 | .agg cs=>match cs.toList with
  | [.string h,.string c,.int .i64 f,.int .i64 a]=>some (.agg [.lit (.string h.data.toList),.lit (.string c.data.toList),.lit (.int .i64 f),.lit (.int .i64 a)],[])
  | _=>none
 | _=>none
def Iz (x:Aks):DataW Unit:=.agg [.lit (.string x.hold.data.toList),.lit (.string x.copy.data.toList),.lit (.int .i64 x.first),.lit (.int .i64 x.at_)]
theorem Dd (x:Aks):Bn (.agg (aaA x))=some (Iz x,[]):=rfl
theorem Dt {v:Value} {z:DataW Unit×List MemPlace} (h:Bn v=some z):∃ x:Aks,v=.agg (aaA x)∧z=(Iz x,[]):=by
 cases v with
 | agg cs =>
  obtain ⟨l⟩:=cs
  match l,h with
  | [.string h,.string c,.int .i64 f,.int .i64 a],e=>exact ⟨⟨h,c,f,a⟩,rfl,(Option.some.inj e).symm⟩
 | _=>cases h
theorem Hl {s t:BA} (h:s.data.toList=t.data.toList):s=t:=by
 obtain ⟨⟨a⟩⟩:=s;obtain ⟨⟨b⟩⟩:=t;simp at h;rw [h]
theorem Hn {x y:Aks} (h:Iz x=Iz y):x=y:=by
 unfold Iz at h;injection h with h;injection h with h0 h;injection h with h1 h;injection h with h2 h;injection h with h3 _;injection h0 with h0;injection h0 with h0;injection h1 with h1;injection h1 with h1;injection h2 with h2;injection h2 with _ h2;injection h3 with h3;injection h3 with _ h3;obtain ⟨a,b,c,d⟩:=x;obtain ⟨a',b',c',d'⟩:=y;simp only at h0 h1 h2 h3;rw [Hl h0,Hl h1,h2,h3]
def asM:List Aks→DataW Unit
 | []=>.map []
 | a::r=>(asM r).put (kOf a.hold) (Iz a)
theorem Kh:∀ r,IsMap (asM r)
 | []=>⟨_,rfl⟩
 | _::r=>IsMap.put (Kh r) _ _
theorem Qm (s:BA):∀ r,has (asM r) (kOf s)=r.any (fun a=>decide (a.hold=s))
 | []=>rfl
 | a::r=>by
  by_cases e:a.hold=s
  ·unfold asM
   rw [← e];simp;exact has_put_same (Kh r) (show WideAt.IsKeyLit (kOf _) from trivial) _
  ·unfold asM
   rw [has_put_other (fun h=>e (Cl h).symm),Qm s r];simp [e]
theorem Zi (s:BA) (d:DataW Unit):∀ r,(asM r).atKey (kOf s) d=match r.find? (fun a=>decide (a.hold=s)) with
  | some a=>Iz a
  | none=>d
 | []=>rfl
 | a::r=>by
  by_cases e:a.hold=s
  ·unfold asM
   simp only [List.find?_cons,e,decide_true];exact atKey_put_same (Kh r) (show WideAt.IsKeyLit (kOf _) from trivial) _ _
  ·unfold asM
   rw [atKey_put_other (fun h=>e (Cl h).symm),Zi s d r];simp [e]
theorem Nj {α:Type} {xs:List α} {k:Nat} {x:α} (h:xs[k]?=some x):(xs.take (k+1)).reverse=x::(xs.take k).reverse:=by
 rw [List.take_add_one,h];simp
theorem Hd (w:World):(zeroValue 52).run Tryz.prog w=.ok (.agg AaA) w:=by kernel_rfl
theorem Hk (xs:List Aks) (a:OA) (cap lo:Nat) (w:World) (hin:SliceC AksC 4 lo w a xs) (hsm:xs.length≤1048576) :
  Calls Tryz.prog 83 #[.slice a xs.length cap,.func (.func 84) #[] #[]] w fun e w'=>∃ m n:Nat,e=.returned (.map (some m))∧w.heap.size≤m∧n≤xs.length∧w'.ownsMap Tryz.prog 9 Bn m n (asM xs.reverse)∧Below w.heap.size w w':=by
 have hmm:∀ q n w,(Instr.makeMap 121 (some (.int q n))).run Tryz.prog w=.ok (.map (some w.heap.size)) (w.alloc (.map #[] 0)):=fun q n w=>Dn Tryz.underlying121 q n w
 have HI:=iH hin;clear hin;go_enter Tryz.func83,Tryz.ntmps83;go_wp2_with fail;go_loopw [13] (fun i wr=>∃ k n:Nat,k≤xs.length∧i=.int .i64 k∧Hid (n≤k)∧Hid (wr.ownsMap Tryz.prog 9 Bn w.heap.size n (asM (xs.take k).reverse))∧Below w.heap.size w wr) (fun i _=>xs.length - (intOf i).toNat)
 case atStart=>exact ⟨0,0,zL,rfl,Nat.le_refl _,World.ownsMap_made _ _ _ _,(Below.refl _ _).alloc nL _⟩
 case round =>
  clear hmm;obtain ⟨k,n,hk,rfl,hn,HO,hB⟩:=hrel;by_cases hlt:k<xs.length
  case neg =>
   have hke:k=xs.length:=by omega
   subst hke;have HOE:Hid (wr.ownsMap Tryz.prog 9 Bn w.heap.size n (asM xs.reverse)):=by show World.ownsMap _ _ _ _ _ _ _;have:=HO.out;rw [List.take_length] at this;exact this
   go_wp2_with fail;go_ret;exact ⟨w.heap.size,n,rfl,Nat.le_refl _,hn.out,HOE,hB⟩
  obtain ⟨x,hx⟩:=gXe hlt;obtain ⟨b,o,rfl,_,hbl,hc⟩:=(HI.out.below AksC.holds hB nL).at hx;have HRA:=iH (Dh hc);obtain ⟨_,_,_,_,z0,z1⟩:=hc;have hkm:keyOf Tryz.prog 9 (.string x.hold)=some (kOf x.hold):=keyOf_string_mk Tryz.underlying9 z0;have HXX:=iH hx;clear z0 z1 hx;have hn2:=hn.out;have HK4:=iH (Blk.alloc wr (aaA x) 52);have HO4:=iH (HO.out.alloc (Obj.cells (aaA x) 52));have hB4:Below w.heap.size w (wr.alloc (Obj.cells (aaA x) 52)):=hB.trans (((Below.refl wr.heap.size wr).alloc nL _).mono hB.size);have hmg:w.heap.size<wr.heap.size:=HO.out.lt;clear HO hB;go_upto_region 5 with (refine qLr Gd HRA ?_);clear HRA;generalize wr.alloc (Obj.cells (aaA x) 52)=w4 at *;generalize wr.heap.size=g at *;refine wp_region_held_drew (S:=fun wy=>Blk g (aaA x) 52 wy) (by kernel_rfl) HK4.out.drew (fun hS=>?_);have hBd:=hB4.trans ((Below.refl w.heap.size w4).drew);have HOd:=iH HO4.out.drew;generalize w4.drew=wd at *;refine tz 0 17 (.map (some w.heap.size)) rfl hS ?_;simp only [pX];refine tz 1 18 (.func (.func 84) #[] #[]) rfl hS ?_;simp only [pX];refine tm 2 19 g 0 (aaL x) rfl (fun _ h=>h.rangeA) Tryz.underlying52 Bu hS ?_;simp only [pX];refine tm 4 21 g 0 (aaL x) rfl (fun _ h=>h.rangeA) Tryz.underlying52 Bu hS ?_;simp only [pX];refine rd1 3 ⟨some 20,_,_,_,_,none⟩ rfl (fun K hK=>?_);go_simp;refine (Hb x _).mono ?_;rintro e w5 ⟨rfl,hb5⟩;have hB5:=qTr hBd hb5;have HO5:=iH (Ak HOd hb5 HOd.out.lt);refine hK.out _ _ (hS.below hb5 hS.lt) (fun hS=>?_);clear hK K;clear hb5 HOd HO4 hBd hB4;obtain ⟨w6,yu,ho6,hg6⟩:=HO5.out.update Bo Tryz.underlying121 (by unfold maxLen;omega) hkm (Dd x);have HG6:=iH hg6;have hB6:Below w.heap.size w w6:=hB5.grown hg6 hB5.size (fun j hj=>by cases hj;exact Nat.le_refl _);have HO6:Hid (w6.ownsMap Tryz.prog 9 Bn w.heap.size (n+1) (asM (xs.take (k+1)).reverse)):=by show World.ownsMap _ _ _ _ _ _ _;rw [Nj HXX.out];exact ho6
  clear ho6 hg6;refine rd1 5 ⟨none,_,_,_,_,none⟩ rfl (fun K hK=>?_);go_simp;refine hK.out _ _ (hS.grown HG6 (fun h=>absurd (Option.some.inj h) (by show ¬ _=_;omega))) (fun hS=>?_);clear hK K yu hkm HO5 hB5 HG6;refine td ?_;clear hS;go_wp2_with fail;go_roundw
  case rel=>exact ⟨k+1,n+1,by omega,by go_num,by show _≤_;omega,HO6,hB6⟩
  case measure=>simp [intOf];omega
theorem Lr {α:Type} (xs:List α) (p:α→Bool):xs.reverse.any p=xs.any p:=by simp
def apB (xs ys:List Aks):Bool:=xs.all (fun a=>!(ys.any (fun g=>decide (g.hold=a.hold))))
theorem Xz {xs ys:List Aks} {k:Nat} {x:Aks} (h:xs[k]?=some x) (hr:ys.any (fun g=>decide (g.hold=x.hold))=true):apB xs ys=false:=by
 unfold apB;rw [List.all_eq_false];exact ⟨x,List.mem_of_getElem? h,by simp only [hr];decide⟩
theorem Vz {xs ys:List Aks} (h:∀ (j:Nat) x,j<xs.length→xs[j]?=some x→ys.any (fun g=>decide (g.hold=x.hold))=false):apB xs ys=true:=by
 unfold apB;rw [List.all_eq_true];intro r hr;obtain ⟨j,hj,e⟩:=List.getElem_of_mem hr;rw [h j r hj (by rw [gE hj,e])];rfl
theorem Wx (xs ys:List Aks) (a:OA) (cap lo:Nat) (d:OA) (dcap:Nat) (w:World) (hin:SliceC AksC 4 lo w a xs) (hin2:SliceC AksC 4 lo w d ys) (hsm:xs.length≤1048576) (hsm2:ys.length≤1048576) :
  Calls Tryz.prog 127 #[.slice a xs.length cap,.slice d ys.length dcap] w (Rt (.bool (apB xs ys)) w):=by
 have HI:=iH hin;have HJ:=iH hin2;clear hin hin2;go_enter Tryz.func127,Tryz.ntmps127;go_wp2_with fail;refine (Hk ys d dcap lo _ HJ hsm2).mono ?_;rintro e w1 ⟨m,n,rfl,hm,hn,ho,hb1⟩;have HO1:=iH ho;have HHA:=iH (fun s=>Qm s ys.reverse);clear ho HJ;go_wp2_with fail;go_loopw [14] (fun i wr=>∃ k:Nat,k≤xs.length∧i=.int .i64 k∧Hid (∀ (j:Nat) x,j<k→xs[j]?=some x→ys.any (fun g=>decide (g.hold=x.hold))=false)∧Hid (wr.ownsMap Tryz.prog 9 Bn m n (asM ys.reverse))∧Below w.heap.size w wr) (fun i _=>xs.length - (intOf i).toNat)
 case atStart=>exact ⟨0,zL,rfl,fun j q h=>by omega,HO1,hb1⟩
 case round =>
  clear hb1 HO1;obtain ⟨k,hk,rfl,hN,HO,hB⟩:=hrel;by_cases hlt:k<xs.length
  case neg =>
   have hke:k=xs.length:=by omega
   subst hke;have HE:=iH (Vz hN.out);go_wp2_with fail;go_ret;exact ⟨Ac HE.out.symm,hB⟩
  obtain ⟨x,hx⟩:=gXe hlt;obtain ⟨b,o,rfl,_,hbl,hc⟩:=(HI.out.below AksC.holds hB nL).at hx;have HRA:=iH (Dh hc);obtain ⟨_,_,_,_,z0,z1⟩:=hc;have hkm:keyOf Tryz.prog 9 (.string x.hold)=some (kOf x.hold):=keyOf_string_mk Tryz.underlying9 z0;have HXX:=iH hx;clear z0 z1 hx;have HK4:=iH (Blk.alloc wr (aaA x) 52);have HO4:=iH (HO.out.alloc (Obj.cells (aaA x) 52));have hB4:Below w.heap.size w (wr.alloc (Obj.cells (aaA x) 52)):=hB.trans (((Below.refl wr.heap.size wr).alloc nL _).mono hB.size);clear HO hB;go_upto_region 5 with (refine qLr Gd HRA ?_);clear HRA;generalize wr.alloc (Obj.cells (aaA x) 52)=w4 at *;generalize wr.heap.size=g at *;have k0:w4.cell? ⟨g,0,none⟩=some (.string x.hold):=HK4.out.cell rfl;obtain ⟨v,ps,hrun,hv⟩:=HO4.out.look_ok Bo Tryz.underlying121 (Hd _) (Dd ⟨⟨#[]⟩,⟨#[]⟩,0,0⟩) hkm;obtain ⟨z,rfl,_⟩:=Dt hv;rw [HHA.out,Lr] at hrun;clear hv hkm;have hBf:Below w.heap.size w (w4.alloc (Obj.cells (aaA z) 52)):=hB4.trans (((Below.refl w4.heap.size w4).alloc nL _).mono hB4.size);have HOf:=iH (HO4.out.alloc (Obj.cells (aaA z) 52));clear HO4 HK4
  cases hq:ys.any (fun g=>decide (g.hold=x.hold)) with
  | true =>
   have HE:=iH (Xz HXX hq);rw [hq] at hrun;clear hq;go_wp2_with fail;go_ret;exact ⟨Ac HE.out.symm,hBf⟩
  | false =>
   have HN2:Hid (∀ (j:Nat) y,j<k+1→xs[j]?=some y→ys.any (fun g=>decide (g.hold=y.hold))=false):=fun j y hj hy=>by
    by_cases e:j=k
    ·subst e
     have:=HXX.out.symm.trans hy;cases this
     exact hq
    ·exact hN.out j y (by omega) hy
   rw [hq] at hrun;clear hq;go_wp2_with fail;go_roundw
   case rel=>exact ⟨k+1,by omega,by go_num,HN2,HOf,hBf⟩
   case measure=>simp [intOf];omega
end Go.Proofs.YtkiloaiffopllaaGreat
namespace Go.Proofs.YtkiloaiffopllaaGreat
open Go.RowKit
def dP:Go.Shelf.Ren:={
 f:=fun n=>if n=316 then 104 else 0,
 t:=fun n=>if n=3 then 3 else if n=4 then 4 else if n=5 then 5 else if n=9 then 9 else if n=37 then 131 else if n=127 then 149 else 0,
 g:=fun n=>n }
theorem bO:LaysM.n316 Tryz.prog dP:={
 mixed:=by kernel_rfl,
 f316:=by kernel_rfl,
 t0:=by kernel_rfl,
 a0:=fun w=>by kernel_rfl,
 z0:=fun w=>by kernel_rfl,
 v0:=fun w=>by kernel_rfl,
 t3:=by kernel_rfl,
 a3:=fun w=>by kernel_rfl,
 z3:=fun w=>by kernel_rfl,
 v3:=fun w=>by kernel_rfl,
 t4:=by kernel_rfl,
 a4:=fun w=>by kernel_rfl,
 z4:=fun w=>by kernel_rfl,
 v4:=fun w=>by kernel_rfl,
 t9:=by kernel_rfl,
 a9:=fun w=>by kernel_rfl,
 z9:=fun w=>by kernel_rfl,
 v9:=fun w=>by kernel_rfl,
 t37:=by kernel_rfl,
 a37:=fun w=>by kernel_rfl,
 z37:=fun w=>by kernel_rfl,
 v37:=fun w=>by kernel_rfl,
 t127:=by kernel_rfl,
 a127:=fun w=>by kernel_rfl,
 z127:=fun w=>by kernel_rfl,
 v127:=fun w=>by kernel_rfl,
 t5:=by kernel_rfl,
 a5:=fun w=>by kernel_rfl,
 z5:=fun w=>by kernel_rfl,
 v5:=fun w=>by kernel_rfl,
 i0:=by kernel_rfl,
 i3:=by kernel_rfl,
 i4:=by kernel_rfl,
 i5:=by kernel_rfl,
 i9:=by kernel_rfl,
 i37:=by kernel_rfl,
 i127:=by kernel_rfl }
end Go.Proofs.YtkiloaiffopllaaGreat
