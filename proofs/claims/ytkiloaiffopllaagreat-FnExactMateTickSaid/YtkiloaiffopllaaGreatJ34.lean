import Derived.Test.YtkiloaiffopllaaGreatJ30
import Derived.Test.YtkiloaiffopllaaGreatJ31
import Derived.Test.YtkiloaiffopllaaGreatMl64
import Derived.Test.YtkiloaiffopllaaGreatJ33
set_option maxHeartbeats 8000000
set_option maxRecDepth 100000
namespace Go.Proofs.YtkiloaiffopllaaGreat
open Go.RowKit
theorem Oe (wn:Wnt) (s l f u:Int) (y:Wnt) (wanted:Bool) (c:Int) (w:World) (h1:¬ s=1) (h2:¬ s=2) (h3:¬ s=3) (h4:¬ s=4) (h5:¬ s=5) (h6:¬ s=6) :
  Calls Tryz.prog 59 #[.agg #[.string wn.copy,.int .i64 wn.version,.string wn.hold,.int .i64 wn.pull,.int .i64 wn.start,.int .i64 wn.dies,.int .i64 wn.grace,.int .i64 s,.int .i64 l,.int .i64 f,.int .i64 u],.agg (wwA y),.bool wanted,.int .i64 c] w fun e w'=>∃ F:Rn,∃ k:Bool,(F,k)=Bd (⟨wn,s,l,f,u⟩:Rn) (!(wanted && eqW y wn)) c∧e=.returned (.tuple #[.agg (rrA F),.bool k])∧Below w.heap.size w w':=by
 have HX0:=Blk.alloc w #[.string wn.copy,.int .i64 wn.version,.string wn.hold,.int .i64 wn.pull,.int .i64 wn.start,.int .i64 wn.dies,.int .i64 wn.grace,.int .i64 s,.int .i64 l,.int .i64 f,.int .i64 u] 88;have HY0:Blk (w.heap.size+1) (wwA y) 86 ((w.alloc (.cells #[.string wn.copy,.int .i64 wn.version,.string wn.hold,.int .i64 wn.pull,.int .i64 wn.start,.int .i64 wn.dies,.int .i64 wn.grace,.int .i64 s,.int .i64 l,.int .i64 f,.int .i64 u] 88)).alloc (.cells (wwA y) 86)):=by
  have:=Blk.alloc (w.alloc (.cells #[.string wn.copy,.int .i64 wn.version,.string wn.hold,.int .i64 wn.pull,.int .i64 wn.start,.int .i64 wn.dies,.int .i64 wn.grace,.int .i64 s,.int .i64 l,.int .i64 f,.int .i64 u] 88)) (wwA y) 86;simpa using this
 have hba:=(Below.refl _ (w.alloc (.cells #[.string wn.copy,.int .i64 wn.version,.string wn.hold,.int .i64 wn.pull,.int .i64 wn.start,.int .i64 wn.dies,.int .i64 wn.grace,.int .i64 s,.int .i64 l,.int .i64 f,.int .i64 u] 88))).alloc nL (Obj.cells (wwA y) 86);have hbb:=(Below.refl _ ((w.alloc (.cells #[.string wn.copy,.int .i64 wn.version,.string wn.hold,.int .i64 wn.pull,.int .i64 wn.start,.int .i64 wn.dies,.int .i64 wn.grace,.int .i64 s,.int .i64 l,.int .i64 f,.int .i64 u] 88)).alloc (.cells (wwA y) 86))).alloc nL (Obj.cells RrA 88);have HZ:Hid (Blk (w.heap.size+1+1) RrA 88 (((w.alloc (.cells #[.string wn.copy,.int .i64 wn.version,.string wn.hold,.int .i64 wn.pull,.int .i64 wn.start,.int .i64 wn.dies,.int .i64 wn.grace,.int .i64 s,.int .i64 l,.int .i64 f,.int .i64 u] 88)).alloc (.cells (wwA y) 86)).alloc (.cells RrA 88))):=by
  show Blk _ _ _ _
  have:=Blk.alloc ((w.alloc (.cells #[.string wn.copy,.int .i64 wn.version,.string wn.hold,.int .i64 wn.pull,.int .i64 wn.start,.int .i64 wn.dies,.int .i64 wn.grace,.int .i64 s,.int .i64 l,.int .i64 f,.int .i64 u] 88)).alloc (.cells (wwA y) 86)) RrA 88;simpa using this
 have HX:Hid (Blk w.heap.size #[.string wn.copy,.int .i64 wn.version,.string wn.hold,.int .i64 wn.pull,.int .i64 wn.start,.int .i64 wn.dies,.int .i64 wn.grace,.int .i64 s,.int .i64 l,.int .i64 f,.int .i64 u] 88 (((w.alloc (.cells #[.string wn.copy,.int .i64 wn.version,.string wn.hold,.int .i64 wn.pull,.int .i64 wn.start,.int .i64 wn.dies,.int .i64 wn.grace,.int .i64 s,.int .i64 l,.int .i64 f,.int .i64 u] 88)).alloc (.cells (wwA y) 86)).alloc (.cells RrA 88))):=(HX0.below hba HX0.lt).below hbb (HX0.below hba HX0.lt).lt;have HY:Hid (Blk (w.heap.size+1) (wwA y) 86 (((w.alloc (.cells #[.string wn.copy,.int .i64 wn.version,.string wn.hold,.int .i64 wn.pull,.int .i64 wn.start,.int .i64 wn.dies,.int .i64 wn.grace,.int .i64 s,.int .i64 l,.int .i64 f,.int .i64 u] 88)).alloc (.cells (wwA y) 86)).alloc (.cells RrA 88))):=HY0.below hbb HY0.lt;have hB0:Below w.heap.size w (((w.alloc (.cells #[.string wn.copy,.int .i64 wn.version,.string wn.hold,.int .i64 wn.pull,.int .i64 wn.start,.int .i64 wn.dies,.int .i64 wn.grace,.int .i64 s,.int .i64 l,.int .i64 f,.int .i64 u] 88)).alloc (.cells (wwA y) 86)).alloc (.cells RrA 88)):=by go_grown
 clear HX0 HY0 hba hbb;go_enter Tryz.func59,Tryz.ntmps59;go_upto_region 1 with fail;generalize ((w.alloc (Obj.cells #[.string wn.copy,.int .i64 wn.version,.string wn.hold,.int .i64 wn.pull,.int .i64 wn.start,.int .i64 wn.dies,.int .i64 wn.grace,.int .i64 s,.int .i64 l,.int .i64 f,.int .i64 u] 88)).alloc (Obj.cells (wwA y) 86)).alloc (Obj.cells RrA 88)=w0 at *;have hq:∀ w,(Op.equalIn 10000 86 (.agg (wwA y)) (.agg (wwA wn))).run Tryz.prog w=.ok (eqW y wn) w:=fun w=>Fu y wn w
 have hgd:=Fr;have k0:w0.cell? ⟨w.heap.size,0,none⟩=some (.string wn.copy):=HX.out.cell rfl;have k1:w0.cell? ⟨w.heap.size,1,none⟩=some (.int .i64 wn.version):=HX.out.cell rfl;have k2:w0.cell? ⟨w.heap.size,2,none⟩=some (.string wn.hold):=HX.out.cell rfl;have k3:w0.cell? ⟨w.heap.size,3,none⟩=some (.int .i64 wn.pull):=HX.out.cell rfl;have k4:w0.cell? ⟨w.heap.size,4,none⟩=some (.int .i64 wn.start):=HX.out.cell rfl;have k5:w0.cell? ⟨w.heap.size,5,none⟩=some (.int .i64 wn.dies):=HX.out.cell rfl;have k6:w0.cell? ⟨w.heap.size,6,none⟩=some (.int .i64 wn.grace):=HX.out.cell rfl;have k7:w0.cell? ⟨w.heap.size,7,none⟩=some (.int .i64 s):=HX.out.cell rfl;have k8:w0.cell? ⟨w.heap.size,8,none⟩=some (.int .i64 l):=HX.out.cell rfl;have f7:w0.frozen? ⟨w.heap.size,7,none⟩=false:=HX.out.frozen _;have f8:w0.frozen? ⟨w.heap.size,8,none⟩=false:=HX.out.frozen _;have l0:w0.cell? ⟨w.heap.size+1,0,none⟩=some (.string y.copy):=HY.out.cell rfl;have l1:w0.cell? ⟨w.heap.size+1,1,none⟩=some (.int .i64 y.version):=HY.out.cell rfl;have l2:w0.cell? ⟨w.heap.size+1,2,none⟩=some (.string y.hold):=HY.out.cell rfl;have l3:w0.cell? ⟨w.heap.size+1,3,none⟩=some (.int .i64 y.pull):=HY.out.cell rfl;have l4:w0.cell? ⟨w.heap.size+1,4,none⟩=some (.int .i64 y.start):=HY.out.cell rfl;have l5:w0.cell? ⟨w.heap.size+1,5,none⟩=some (.int .i64 y.dies):=HY.out.cell rfl;have l6:w0.cell? ⟨w.heap.size+1,6,none⟩=some (.int .i64 y.grace):=HY.out.cell rfl
 cases wanted with
 | false =>
  have hal:alB s=false:=Qk h3 h4 h6;have HEQ:Hid ((Ec,false)=Bd (⟨wn,s,l,f,u⟩:Rn) (!(false && eqW y wn)) c):=by
   show _=_
   skip;simp [Bd,hal,h6]
  go_wp2_with (first | (refine qLk Bi HX ?_));refine (Av (⟨wn,s,l,f,u⟩:Rn) _).mono ?_;rintro e w1 ⟨rfl,hb1⟩;have HX1:=qBk HX hb1;have HZ1:=qBk HZ hb1;have hB1:=qTr hB0 hb1;simp only [];rw [show alB s=false from hal];clear hq hgd k0 k1 k2 k3 k4 k5 k6 l0 l1 l2 l3 l4 l5 l6 k7 k8 f7 f8 hb1 hB0 HX HZ HY;obtain ⟨w5,HW5⟩:∃ w5,Hid (w5=(w1).setCells (w.heap.size+1+1) 0 RrL):=⟨_,rfl⟩;have HR5:Hid (w5.rangeAt (w.heap.size+1+1) 0 RrL):=by
   show World.rangeAt _ _ _ _
   rw [HW5.out];exact World.rangeAt_setCells_same _ _ _ _ HZ1.out.there
  have hB5:Below w.heap.size w w5:=by
   rw [HW5.out];exact Aa (by omega) _ _ _ hB1
  have HTZ:=iH HZ1.out.there;go_wp2_with (first | (refine Ab rfl 88 _ _ rfl (w.heap.size+1+1) 0 RrA rfl rfl HTZ Ag (by simp [Value.oneCell']) w5 HW5 ?_));exact bodyPost_ret (Ad rfl _ _ (w.heap.size+1+1) RrL _ rfl HR5 Tryz.underlying88 rfl Ag) rfl ⟨Ec,false,HEQ,rfl,hB5⟩
 | true =>
  cases hE:eqW y wn with
  | false =>
   rw [hE] at hq;have HE:=iH hE;clear hE;have hal:alB s=false:=Qk h3 h4 h6;have HEQ:Hid ((Ec,false)=Bd (⟨wn,s,l,f,u⟩:Rn) (!(true && eqW y wn)) c):=by
    show _=_
    rw [HE.out];simp [Bd,hal,h6]
   go_wp2_with (first | (refine qLk Bi HX ?_));refine (Av (⟨wn,s,l,f,u⟩:Rn) _).mono ?_;rintro e w1 ⟨rfl,hb1⟩;have HX1:=qBk HX hb1;have HZ1:=qBk HZ hb1;have hB1:=qTr hB0 hb1;simp only [];rw [show alB s=false from hal];clear hq hgd k0 k1 k2 k3 k4 k5 k6 l0 l1 l2 l3 l4 l5 l6 k7 k8 f7 f8 hb1 hB0 HX HZ HY;obtain ⟨w5,HW5⟩:∃ w5,Hid (w5=(w1).setCells (w.heap.size+1+1) 0 RrL):=⟨_,rfl⟩;have HR5:Hid (w5.rangeAt (w.heap.size+1+1) 0 RrL):=by
    show World.rangeAt _ _ _ _
    rw [HW5.out];exact World.rangeAt_setCells_same _ _ _ _ HZ1.out.there
   have hB5:Below w.heap.size w w5:=by
    rw [HW5.out];exact Aa (by omega) _ _ _ hB1
   have HTZ:=iH HZ1.out.there;go_wp2_with (first | (refine Ab rfl 88 _ _ rfl (w.heap.size+1+1) 0 RrA rfl rfl HTZ Ag (by simp [Value.oneCell']) w5 HW5 ?_));exact bodyPost_ret (Ad rfl _ _ (w.heap.size+1+1) RrL _ rfl HR5 Tryz.underlying88 rfl Ag) rfl ⟨Ec,false,HEQ,rfl,hB5⟩
  | true =>
   rw [hE] at hq;have HE:=iH hE;clear hE;by_cases hl:1<l
   ·skip
    have HEQ:Hid (((⟨wn,s,wrap64 (l - 1),f,u⟩:Rn),true)=Bd (⟨wn,s,l,f,u⟩:Rn) (!(true && eqW y wn)) c):=by
     show _=_
     rw [HE.out];simp [Bd,hl,h2,h6]
    have HXs:Hid (Blk w.heap.size #[.string wn.copy,.int .i64 wn.version,.string wn.hold,.int .i64 wn.pull,.int .i64 wn.start,.int .i64 wn.dies,.int .i64 wn.grace,.int .i64 s,.int .i64 (wrap64 (l - 1)),.int .i64 f,.int .i64 u] 88 (w0.setCell ⟨w.heap.size,8,none⟩ (.int .i64 (wrap64 (l - 1))))):=(HX.out.set 8 _);have HZs:Hid (Blk (w.heap.size+1+1) RrA 88 (w0.setCell ⟨w.heap.size,8,none⟩ (.int .i64 (wrap64 (l - 1))))):=(HZ.out.other (by simp;omega) _);have hBs:Below w.heap.size w (w0.setCell ⟨w.heap.size,8,none⟩ (.int .i64 (wrap64 (l - 1)))):=(hB0.setCell (p:=⟨w.heap.size,8,none⟩) nL _);obtain ⟨w5,HW5⟩:∃ w5,Hid (w5=((w0.setCell ⟨w.heap.size,8,none⟩ (.int .i64 (wrap64 (l - 1))))).setCells (w.heap.size+1+1) 0 [.string wn.copy,.int .i64 wn.version,.string wn.hold,.int .i64 wn.pull,.int .i64 wn.start,.int .i64 wn.dies,.int .i64 wn.grace,.int .i64 s,.int .i64 (wrap64 (l - 1)),.int .i64 f,.int .i64 u]):=⟨_,rfl⟩;have HR5:Hid (w5.rangeAt (w.heap.size+1+1) 0 [.string wn.copy,.int .i64 wn.version,.string wn.hold,.int .i64 wn.pull,.int .i64 wn.start,.int .i64 wn.dies,.int .i64 wn.grace,.int .i64 s,.int .i64 (wrap64 (l - 1)),.int .i64 f,.int .i64 u]):=by
     show World.rangeAt _ _ _ _
     rw [HW5.out];exact World.rangeAt_setCells_same _ _ _ _ HZs.out.there
    have hB5:Below w.heap.size w w5:=by
     rw [HW5.out];exact Aa (by omega) _ _ _ hBs
    have HTZ:=iH HZs.out.there;go_wp2_with (first | (refine qLk Bi HXs ?_) | (refine Ab rfl 88 _ _ rfl (w.heap.size+1+1) 0 #[.string wn.copy,.int .i64 wn.version,.string wn.hold,.int .i64 wn.pull,.int .i64 wn.start,.int .i64 wn.dies,.int .i64 wn.grace,.int .i64 s,.int .i64 (wrap64 (l - 1)),.int .i64 f,.int .i64 u] rfl rfl HTZ Ag (by simp [Value.oneCell']) w5 HW5 ?_));exact bodyPost_ret (Ad rfl _ _ (w.heap.size+1+1) [.string wn.copy,.int .i64 wn.version,.string wn.hold,.int .i64 wn.pull,.int .i64 wn.start,.int .i64 wn.dies,.int .i64 wn.grace,.int .i64 s,.int .i64 (wrap64 (l - 1)),.int .i64 f,.int .i64 u] _ rfl HR5 Tryz.underlying88 rfl Ag) rfl ⟨(⟨wn,s,wrap64 (l - 1),f,u⟩:Rn),true,HEQ,rfl,hB5⟩
   have hl':l≤1:=by omega
   have HEQ:Hid (((⟨wn,s,l,f,u⟩:Rn),true)=Bd (⟨wn,s,l,f,u⟩:Rn) (!(true && eqW y wn)) c):=by
    show _=_
    rw [HE.out];simp [Bd,hl,h1,h2,h3,h4,h5,h6]
   clear hl;have HXs:Hid (Blk w.heap.size #[.string wn.copy,.int .i64 wn.version,.string wn.hold,.int .i64 wn.pull,.int .i64 wn.start,.int .i64 wn.dies,.int .i64 wn.grace,.int .i64 s,.int .i64 l,.int .i64 f,.int .i64 u] 88 w0):=HX.out;have HZs:Hid (Blk (w.heap.size+1+1) RrA 88 w0):=HZ.out;have hBs:Below w.heap.size w w0:=hB0;obtain ⟨w5,HW5⟩:∃ w5,Hid (w5=(w0).setCells (w.heap.size+1+1) 0 [.string wn.copy,.int .i64 wn.version,.string wn.hold,.int .i64 wn.pull,.int .i64 wn.start,.int .i64 wn.dies,.int .i64 wn.grace,.int .i64 s,.int .i64 l,.int .i64 f,.int .i64 u]):=⟨_,rfl⟩;have HR5:Hid (w5.rangeAt (w.heap.size+1+1) 0 [.string wn.copy,.int .i64 wn.version,.string wn.hold,.int .i64 wn.pull,.int .i64 wn.start,.int .i64 wn.dies,.int .i64 wn.grace,.int .i64 s,.int .i64 l,.int .i64 f,.int .i64 u]):=by
    show World.rangeAt _ _ _ _
    rw [HW5.out];exact World.rangeAt_setCells_same _ _ _ _ HZs.out.there
   have hB5:Below w.heap.size w w5:=by
    rw [HW5.out];exact Aa (by omega) _ _ _ hBs
   have HTZ:=iH HZs.out.there;go_wp2_with (first | (refine qLk Bi HXs ?_) | (refine Ab rfl 88 _ _ rfl (w.heap.size+1+1) 0 #[.string wn.copy,.int .i64 wn.version,.string wn.hold,.int .i64 wn.pull,.int .i64 wn.start,.int .i64 wn.dies,.int .i64 wn.grace,.int .i64 s,.int .i64 l,.int .i64 f,.int .i64 u] rfl rfl HTZ Ag (by simp [Value.oneCell']) w5 HW5 ?_));exact bodyPost_ret (Ad rfl _ _ (w.heap.size+1+1) [.string wn.copy,.int .i64 wn.version,.string wn.hold,.int .i64 wn.pull,.int .i64 wn.start,.int .i64 wn.dies,.int .i64 wn.grace,.int .i64 s,.int .i64 l,.int .i64 f,.int .i64 u] _ rfl HR5 Tryz.underlying88 rfl Ag) rfl ⟨(⟨wn,s,l,f,u⟩:Rn),true,HEQ,rfl,hB5⟩
theorem Jw (x:Rn) (y:Wnt) (wanted:Bool) (c:Int) (w:World) :
  Calls Tryz.prog 59 #[.agg (rrA x),.agg (wwA y),.bool wanted,.int .i64 c] w fun e w'=>∃ F:Rn,∃ k:Bool,(F,k)=Bd x (!(wanted && eqW y x.want)) c∧e=.returned (.tuple #[.agg (rrA F),.bool k])∧Below w.heap.size w w':=by
 obtain ⟨wn,s,l,f,u⟩:=x;by_cases h1:s=1
 ·subst h1;exact Oi wn l f u y wanted c w
 by_cases h2:s=2
 ·subst h2;exact Oa wn l f u y wanted c w
 by_cases h3:s=3
 ·subst h3;exact Ny wn l f u y wanted c w
 by_cases h4:s=4
 ·subst h4;exact Nr wn l f u y wanted c w
 by_cases h5:s=5
 ·subst h5;exact Ns wn l f u y wanted c w
 by_cases h6:s=6
 ·subst h6;exact Nx wn l f u y wanted c w
 exact Oe wn s l f u y wanted c w h1 h2 h3 h4 h5 h6
theorem Wj (c:Int) (n:Nat) (x:Rn) (g:Bool):Ep c n none x g=(x,g):=by cases n <;> rfl
theorem So (x:Rn) (c:Int) (n:Nat):lvA (Ep c (n+2) (some 154) x false)=if 1<x.left then (ctR x,true) else (Ec,false):=by
 show lvA (Ep c (n+1) (nxt x (some 155)) (ctR x) false)=_
 by_cases h:1<x.left
 ·rw [show nxt x (some 155)=none from if_pos h,if_pos h]
  rfl
 ·rw [show nxt x (some 155)=some 155 from if_neg h,if_neg h]
  show lvA (Ep c n none (ctR x) true)=_
  rw [Wj];rfl
theorem Gk {x:Rn} (h:1<x.left):ctR x={ x with left:=wrap64 (x.left - 1) }:=if_pos h
theorem Kb {x:Rn} (h:¬ 1<x.left):ctR x=x:=if_neg h
theorem Vw (x:Rn) (v:Bool) (c:Int):lvA (Ep c 3 (some (Jd x v)) x false)=Bd x (!v) c:=by
 cases v with
 | false =>
  show lvA (Ep c 2 (unN x) (unR x) false)=Bd x true c
  by_cases h6:x.state=6
  ·unfold Bd
   rw [if_neg (show ¬ (true=true∧¬ x.state=6) from fun h=>h.2 h6),show unN x=some 154 from if_pos h6,show unR x=x from if_pos h6,So x c 0];by_cases hl:1<x.left
   ·rw [if_pos hl,if_pos ⟨by omega,hl⟩,Gk hl]
   ·rw [if_neg hl,if_neg (by simp [hl]),if_neg (by omega),if_neg (by omega),if_pos h6]
  ·unfold Bd
   rw [if_pos ⟨rfl,h6⟩];by_cases ha:alB x.state=true
   ·rw [show unN x=none from (if_neg h6).trans (if_pos ha),show unR x={ x with state:=6,left:=x.want.grace } from (if_neg h6).trans (if_pos ha),if_pos ha]
    rfl
   ·rw [show unN x=some 155 from (if_neg h6).trans (if_neg ha),show unR x=x from (if_neg h6).trans (if_neg ha),if_neg ha]
    rfl
 | true =>
  show lvA (Ep c 3 (some (stF x.state)) x false)=Bd x false c
  unfold Bd;rw [if_neg (by simp)];by_cases h1:x.state=1
  ·rw [show stF x.state=172 from by rw [h1];rfl]
   show lvA (Ep c 2 (nxt x (some 173)) (ctR x) false)=_
   by_cases hl:1<x.left
   ·rw [show nxt x (some 173)=none from if_pos hl,Gk hl,if_pos ⟨by omega,hl⟩]
    rfl
   ·rw [show nxt x (some 173)=some 173 from if_neg hl,Kb hl,if_neg (by simp [hl]),if_neg (by omega),if_neg (by omega),if_neg (by omega),if_pos (.inl h1)]
    rfl
  by_cases h2:x.state=2
  ·rw [show stF x.state=173 from by rw [h2];rfl,if_neg (by simp [h2]),if_neg (by omega),if_neg (by omega),if_neg (by omega),if_pos (.inr (.inl h2))]
   rfl
  by_cases h3:x.state=3
  ·rw [show stF x.state=174 from by rw [h3];rfl]
   show lvA (Ep c 2 (nxt x (some 188)) (ctR x) false)=_
   by_cases hl:1<x.left
   ·rw [show nxt x (some 188)=none from if_pos hl,Gk hl,if_pos ⟨h2,hl⟩]
    rfl
   ·rw [show nxt x (some 188)=some 188 from if_neg hl,Kb hl,if_neg (by simp [hl]),if_pos h3]
    rfl
  by_cases h4:x.state=4
  ·rw [show stF x.state=175 from by rw [h4];rfl]
   show lvA (Ep c 2 (nxt x (some 189)) (ctR x) false)=_
   by_cases hl:1<x.left
   ·rw [show nxt x (some 189)=none from if_pos hl,Gk hl,if_pos ⟨h2,hl⟩]
    rfl
   ·rw [show nxt x (some 189)=some 189 from if_neg hl,Kb hl,if_neg (by simp [hl]),if_neg h3,if_pos h4]
    rfl
  by_cases h5:x.state=5
  ·rw [show stF x.state=176 from by rw [h5];rfl]
   show lvA (Ep c 2 (nxt x (some 173)) (ctR x) false)=_
   by_cases hl:1<x.left
   ·rw [show nxt x (some 173)=none from if_pos hl,Gk hl,if_pos ⟨h2,hl⟩]
    rfl
   ·rw [show nxt x (some 173)=some 173 from if_neg hl,Kb hl,if_neg (by simp [hl]),if_neg h3,if_neg h4,if_neg (by omega),if_pos (.inr (.inr h5))]
    rfl
  by_cases h6:x.state=6
  ·rw [show stF x.state=154 from by rw [h6];rfl,So x c 1]
   by_cases hl:1<x.left
   ·rw [if_pos hl,if_pos ⟨h2,hl⟩,Gk hl]
   ·rw [if_neg hl,if_neg (by simp [hl]),if_neg h3,if_neg h4,if_pos h6]
  ·rw [show stF x.state=171 from by unfold stF;rw [if_neg h1,if_neg h2,if_neg h3,if_neg h4,if_neg h5,if_neg h6]]
   show lvA (Ep c 2 (nxt x none) (ctR x) false)=_
   rw [show nxt x none=none from by unfold nxt;split <;> rfl];by_cases hl:1<x.left
   ·rw [Gk hl,if_pos ⟨h2,hl⟩]
    rfl
   ·rw [Kb hl,if_neg (by simp [hl]),if_neg h3,if_neg h4,if_neg h6,if_neg (by rintro (h | h | h) <;> contradiction)]
    rfl
end Go.Proofs.YtkiloaiffopllaaGreat
