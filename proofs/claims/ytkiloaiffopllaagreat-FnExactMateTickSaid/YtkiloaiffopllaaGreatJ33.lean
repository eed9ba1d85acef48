import Derived.Test.YtkiloaiffopllaaGreatJ26
set_option maxHeartbeats 8000000
namespace Go.Proofs.YtkiloaiffopllaaGreat
set_option maxRecDepth 100000
open Go.RowKit
theorem Ns (wn:Wnt) (l f u:Int) (y:Wnt) (wanted:Bool) (c:Int) (w:World)  :
  Calls Tryz.prog 59 #[.agg #[.string wn.copy,.int .i64 wn.version,.string wn.hold,.int .i64 wn.pull,.int .i64 wn.start,.int .i64 wn.dies,.int .i64 wn.grace,.int .i64 5,.int .i64 l,.int .i64 f,.int .i64 u],.agg (wwA y),.bool wanted,.int .i64 c] w fun e w'=>∃ F:Rn,∃ k:Bool,(F,k)=Bd (⟨wn,5,l,f,u⟩:Rn) (!(wanted && eqW y wn)) c∧e=.returned (.tuple #[.agg (rrA F),.bool k])∧Below w.heap.size w w':=by
 have HX0:=Blk.alloc w #[.string wn.copy,.int .i64 wn.version,.string wn.hold,.int .i64 wn.pull,.int .i64 wn.start,.int .i64 wn.dies,.int .i64 wn.grace,.int .i64 5,.int .i64 l,.int .i64 f,.int .i64 u] 88;have HY0:Blk (w.heap.size+1) (wwA y) 86 ((w.alloc (.cells #[.string wn.copy,.int .i64 wn.version,.string wn.hold,.int .i64 wn.pull,.int .i64 wn.start,.int .i64 wn.dies,.int .i64 wn.grace,.int .i64 5,.int .i64 l,.int .i64 f,.int .i64 u] 88)).alloc (.cells (wwA y) 86)):=by
  have:=Blk.alloc (w.alloc (.cells #[.string wn.copy,.int .i64 wn.version,.string wn.hold,.int .i64 wn.pull,.int .i64 wn.start,.int .i64 wn.dies,.int .i64 wn.grace,.int .i64 5,.int .i64 l,.int .i64 f,.int .i64 u] 88)) (wwA y) 86;simpa using this
 have hba:=(Below.refl _ (w.alloc (.cells #[.string wn.copy,.int .i64 wn.version,.string wn.hold,.int .i64 wn.pull,.int .i64 wn.start,.int .i64 wn.dies,.int .i64 wn.grace,.int .i64 5,.int .i64 l,.int .i64 f,.int .i64 u] 88))).alloc nL (Obj.cells (wwA y) 86);have hbb:=(Below.refl _ ((w.alloc (.cells #[.string wn.copy,.int .i64 wn.version,.string wn.hold,.int .i64 wn.pull,.int .i64 wn.start,.int .i64 wn.dies,.int .i64 wn.grace,.int .i64 5,.int .i64 l,.int .i64 f,.int .i64 u] 88)).alloc (.cells (wwA y) 86))).alloc nL (Obj.cells RrA 88);have HZ:Hid (Blk (w.heap.size+1+1) RrA 88 (((w.alloc (.cells #[.string wn.copy,.int .i64 wn.version,.string wn.hold,.int .i64 wn.pull,.int .i64 wn.start,.int .i64 wn.dies,.int .i64 wn.grace,.int .i64 5,.int .i64 l,.int .i64 f,.int .i64 u] 88)).alloc (.cells (wwA y) 86)).alloc (.cells RrA 88))):=by
  show Blk _ _ _ _
  have:=Blk.alloc ((w.alloc (.cells #[.string wn.copy,.int .i64 wn.version,.string wn.hold,.int .i64 wn.pull,.int .i64 wn.start,.int .i64 wn.dies,.int .i64 wn.grace,.int .i64 5,.int .i64 l,.int .i64 f,.int .i64 u] 88)).alloc (.cells (wwA y) 86)) RrA 88;simpa using this
 have HX:Hid (Blk w.heap.size #[.string wn.copy,.int .i64 wn.version,.string wn.hold,.int .i64 wn.pull,.int .i64 wn.start,.int .i64 wn.dies,.int .i64 wn.grace,.int .i64 5,.int .i64 l,.int .i64 f,.int .i64 u] 88 (((w.alloc (.cells #[.string wn.copy,.int .i64 wn.version,.string wn.hold,.int .i64 wn.pull,.int .i64 wn.start,.int .i64 wn.dies,.int .i64 wn.grace,.int .i64 5,.int .i64 l,.int .i64 f,.int .i64 u] 88)).alloc (.cells (wwA y) 86)).alloc (.cells RrA 88))):=(HX0.below hba HX0.lt).below hbb (HX0.below hba HX0.lt).lt;have HY:Hid (Blk (w.heap.size+1) (wwA y) 86 (((w.alloc (.cells #[.string wn.copy,.int .i64 wn.version,.string wn.hold,.int .i64 wn.pull,.int .i64 wn.start,.int .i64 wn.dies,.int .i64 wn.grace,.int .i64 5,.int .i64 l,.int .i64 f,.int .i64 u] 88)).alloc (.cells (wwA y) 86)).alloc (.cells RrA 88))):=HY0.below hbb HY0.lt;have hB0:Below w.heap.size w (((w.alloc (.cells #[.string wn.copy,.int .i64 wn.version,.string wn.hold,.int .i64 wn.pull,.int .i64 wn.start,.int .i64 wn.dies,.int .i64 wn.grace,.int .i64 5,.int .i64 l,.int .i64 f,.int .i64 u] 88)).alloc (.cells (wwA y) 86)).alloc (.cells RrA 88)):=by go_grown
 clear HX0 HY0 hba hbb;go_enter Tryz.func59,Tryz.ntmps59;go_upto_region 1 with fail;generalize ((w.alloc (Obj.cells #[.string wn.copy,.int .i64 wn.version,.string wn.hold,.int .i64 wn.pull,.int .i64 wn.start,.int .i64 wn.dies,.int .i64 wn.grace,.int .i64 5,.int .i64 l,.int .i64 f,.int .i64 u] 88)).alloc (Obj.cells (wwA y) 86)).alloc (Obj.cells RrA 88)=w0 at *;have hq:∀ w,(Op.equalIn 10000 86 (.agg (wwA y)) (.agg (wwA wn))).run Tryz.prog w=.ok (eqW y wn) w:=fun w=>Fu y wn w
 have hgd:=Fr;have k0:w0.cell? ⟨w.heap.size,0,none⟩=some (.string wn.copy):=HX.out.cell rfl;have k1:w0.cell? ⟨w.heap.size,1,none⟩=some (.int .i64 wn.version):=HX.out.cell rfl;have k2:w0.cell? ⟨w.heap.size,2,none⟩=some (.string wn.hold):=HX.out.cell rfl;have k3:w0.cell? ⟨w.heap.size,3,none⟩=some (.int .i64 wn.pull):=HX.out.cell rfl;have k4:w0.cell? ⟨w.heap.size,4,none⟩=some (.int .i64 wn.start):=HX.out.cell rfl;have k5:w0.cell? ⟨w.heap.size,5,none⟩=some (.int .i64 wn.dies):=HX.out.cell rfl;have k6:w0.cell? ⟨w.heap.size,6,none⟩=some (.int .i64 wn.grace):=HX.out.cell rfl;have k7:w0.cell? ⟨w.heap.size,7,none⟩=some (.int .i64 5):=HX.out.cell rfl;have k8:w0.cell? ⟨w.heap.size,8,none⟩=some (.int .i64 l):=HX.out.cell rfl;have f7:w0.frozen? ⟨w.heap.size,7,none⟩=false:=HX.out.frozen _;have f8:w0.frozen? ⟨w.heap.size,8,none⟩=false:=HX.out.frozen _;have l0:w0.cell? ⟨w.heap.size+1,0,none⟩=some (.string y.copy):=HY.out.cell rfl;have l1:w0.cell? ⟨w.heap.size+1,1,none⟩=some (.int .i64 y.version):=HY.out.cell rfl;have l2:w0.cell? ⟨w.heap.size+1,2,none⟩=some (.string y.hold):=HY.out.cell rfl;have l3:w0.cell? ⟨w.heap.size+1,3,none⟩=some (.int .i64 y.pull):=HY.out.cell rfl;have l4:w0.cell? ⟨w.heap.size+1,4,none⟩=some (.int .i64 y.start):=HY.out.cell rfl;have l5:w0.cell? ⟨w.heap.size+1,5,none⟩=some (.int .i64 y.dies):=HY.out.cell rfl;have l6:w0.cell? ⟨w.heap.size+1,6,none⟩=some (.int .i64 y.grace):=HY.out.cell rfl
 cases wanted with
 | false =>
  have HEQ:Hid ((Ec,false)=Bd (⟨wn,5,l,f,u⟩:Rn) (!(false && eqW y wn)) c):=by
   show _=_
   skip;simp [Bd,alB]
  go_wp2_with (first | (refine qLk Bi HX ?_));refine (Av (⟨wn,5,l,f,u⟩:Rn) _).mono ?_;rintro e w1 ⟨rfl,hb1⟩;have HX1:=qBk HX hb1;have HZ1:=qBk HZ hb1;have hB1:=qTr hB0 hb1;simp only [];rw [show alB 5=false from rfl];clear hq hgd k0 k1 k2 k3 k4 k5 k6 l0 l1 l2 l3 l4 l5 l6 k7 k8 f7 f8 hb1 hB0 HX HZ HY;obtain ⟨w5,HW5⟩:∃ w5,Hid (w5=(w1).setCells (w.heap.size+1+1) 0 RrL):=⟨_,rfl⟩;have HR5:Hid (w5.rangeAt (w.heap.size+1+1) 0 RrL):=by
   show World.rangeAt _ _ _ _
   rw [HW5.out];exact World.rangeAt_setCells_same _ _ _ _ HZ1.out.there
  have hB5:Below w.heap.size w w5:=by
   rw [HW5.out];exact Aa (by omega) _ _ _ hB1
  have HTZ:=iH HZ1.out.there;go_wp2_with (first | (refine Ab rfl 88 _ _ rfl (w.heap.size+1+1) 0 RrA rfl rfl HTZ Ag (by simp [Value.oneCell']) w5 HW5 ?_));exact bodyPost_ret (Ad rfl _ _ (w.heap.size+1+1) RrL _ rfl HR5 Tryz.underlying88 rfl Ag) rfl ⟨Ec,false,HEQ,rfl,hB5⟩
 | true =>
  cases hE:eqW y wn with
  | false =>
   rw [hE] at hq;have HE:=iH hE;clear hE;have HEQ:Hid ((Ec,false)=Bd (⟨wn,5,l,f,u⟩:Rn) (!(true && eqW y wn)) c):=by
    show _=_
    rw [HE.out];simp [Bd,alB]
   go_wp2_with (first | (refine qLk Bi HX ?_));refine (Av (⟨wn,5,l,f,u⟩:Rn) _).mono ?_;rintro e w1 ⟨rfl,hb1⟩;have HX1:=qBk HX hb1;have HZ1:=qBk HZ hb1;have hB1:=qTr hB0 hb1;simp only [];rw [show alB 5=false from rfl];clear hq hgd k0 k1 k2 k3 k4 k5 k6 l0 l1 l2 l3 l4 l5 l6 k7 k8 f7 f8 hb1 hB0 HX HZ HY;obtain ⟨w5,HW5⟩:∃ w5,Hid (w5=(w1).setCells (w.heap.size+1+1) 0 RrL):=⟨_,rfl⟩;have HR5:Hid (w5.rangeAt (w.heap.size+1+1) 0 RrL):=by
    show World.rangeAt _ _ _ _
    rw [HW5.out];exact World.rangeAt_setCells_same _ _ _ _ HZ1.out.there
   have hB5:Below w.heap.size w w5:=by
    rw [HW5.out];exact Aa (by omega) _ _ _ hB1
   have HTZ:=iH HZ1.out.there;go_wp2_with (first | (refine Ab rfl 88 _ _ rfl (w.heap.size+1+1) 0 RrA rfl rfl HTZ Ag (by simp [Value.oneCell']) w5 HW5 ?_));exact bodyPost_ret (Ad rfl _ _ (w.heap.size+1+1) RrL _ rfl HR5 Tryz.underlying88 rfl Ag) rfl ⟨Ec,false,HEQ,rfl,hB5⟩
  | true =>
   rw [hE] at hq;have HE:=iH hE;clear hE;by_cases hl:1<l
   ·skip
    have HEQ:Hid (((⟨wn,5,wrap64 (l - 1),f,u⟩:Rn),true)=Bd (⟨wn,5,l,f,u⟩:Rn) (!(true && eqW y wn)) c):=by
     show _=_
     rw [HE.out];simp [Bd,hl]
    have HXs:Hid (Blk w.heap.size #[.string wn.copy,.int .i64 wn.version,.string wn.hold,.int .i64 wn.pull,.int .i64 wn.start,.int .i64 wn.dies,.int .i64 wn.grace,.int .i64 5,.int .i64 (wrap64 (l - 1)),.int .i64 f,.int .i64 u] 88 (w0.setCell ⟨w.heap.size,8,none⟩ (.int .i64 (wrap64 (l - 1))))):=(HX.out.set 8 _);have HZs:Hid (Blk (w.heap.size+1+1) RrA 88 (w0.setCell ⟨w.heap.size,8,none⟩ (.int .i64 (wrap64 (l - 1))))):=(HZ.out.other (by simp;omega) _);have hBs:Below w.heap.size w (w0.setCell ⟨w.heap.size,8,none⟩ (.int .i64 (wrap64 (l - 1)))):=(hB0.setCell (p:=⟨w.heap.size,8,none⟩) nL _);obtain ⟨w5,HW5⟩:∃ w5,Hid (w5=((w0.setCell ⟨w.heap.size,8,none⟩ (.int .i64 (wrap64 (l - 1))))).setCells (w.heap.size+1+1) 0 [.string wn.copy,.int .i64 wn.version,.string wn.hold,.int .i64 wn.pull,.int .i64 wn.start,.int .i64 wn.dies,.int .i64 wn.grace,.int .i64 5,.int .i64 (wrap64 (l - 1)),.int .i64 f,.int .i64 u]):=⟨_,rfl⟩;have HR5:Hid (w5.rangeAt (w.heap.size+1+1) 0 [.string wn.copy,.int .i64 wn.version,.string wn.hold,.int .i64 wn.pull,.int .i64 wn.start,.int .i64 wn.dies,.int .i64 wn.grace,.int .i64 5,.int .i64 (wrap64 (l - 1)),.int .i64 f,.int .i64 u]):=by
     show World.rangeAt _ _ _ _
     rw [HW5.out];exact World.rangeAt_setCells_same _ _ _ _ HZs.out.there
    have hB5:Below w.heap.size w w5:=by
     rw [HW5.out];exact Aa (by omega) _ _ _ hBs
    have HTZ:=iH HZs.out.there;go_wp2_with (first | (refine qLk Bi HXs ?_) | (refine Ab rfl 88 _ _ rfl (w.heap.size+1+1) 0 #[.string wn.copy,.int .i64 wn.version,.string wn.hold,.int .i64 wn.pull,.int .i64 wn.start,.int .i64 wn.dies,.int .i64 wn.grace,.int .i64 5,.int .i64 (wrap64 (l - 1)),.int .i64 f,.int .i64 u] rfl rfl HTZ Ag (by simp [Value.oneCell']) w5 HW5 ?_));exact bodyPost_ret (Ad rfl _ _ (w.heap.size+1+1) [.string wn.copy,.int .i64 wn.version,.string wn.hold,.int .i64 wn.pull,.int .i64 wn.start,.int .i64 wn.dies,.int .i64 wn.grace,.int .i64 5,.int .i64 (wrap64 (l - 1)),.int .i64 f,.int .i64 u] _ rfl HR5 Tryz.underlying88 rfl Ag) rfl ⟨(⟨wn,5,wrap64 (l - 1),f,u⟩:Rn),true,HEQ,rfl,hB5⟩
   have hl':l≤1:=by omega
   have HEQ:Hid ((bgR (⟨wn,5,l,f,u⟩:Rn) c,true)=Bd (⟨wn,5,l,f,u⟩:Rn) (!(true && eqW y wn)) c):=by
    show _=_
    rw [HE.out];simp [Bd,hl]
   clear hl;go_wp2_with (first | (refine qLk Bi HX ?_));refine (Hm (⟨wn,5,l,f,u⟩:Rn) c _).mono ?_;rintro e w1 ⟨rfl,hb1⟩;have HX1:=qBk HX hb1;have HZ1:=qBk HZ hb1;have hB1:=qTr hB0 hb1;have hzl:w.heap.size+1+1<w1.heap.size:=HZ1.out.lt;generalize bgR (⟨wn,5,l,f,u⟩:Rn) c=G at *;obtain ⟨w2,HW2⟩:∃ w2,Hid (w2=w1.setCells w.heap.size 0 (rrL G)):=⟨_,rfl⟩;have HX2:Hid (Blk w.heap.size (rrA G) 88 w2):=by
    show Blk _ _ _ _
    rw [HW2.out];exact HX1.out.setAll (rrA G) rfl
   have hB2:Below w.heap.size w w2:=by
    rw [HW2.out];exact Aa nL _ _ _ hB1
   have HZ2:Hid (Blk (w.heap.size+1+1) RrA 88 w2):=by
    show Blk _ _ _ _
    rw [HW2.out];exact Ar (by omega) _ _ _ HZ1
   have HTX:=iH HX1.out.there;clear hb1 hB0 hB1 HX HZ HX1 HZ1 k7 k8 f7 f8;obtain ⟨w5,HW5⟩:∃ w5,Hid (w5=w2.setCells (w.heap.size+1+1) 0 (rrL G)):=⟨_,rfl⟩;have HR5:Hid (w5.rangeAt (w.heap.size+1+1) 0 (rrL G)):=by
    show World.rangeAt _ _ _ _
    rw [HW5.out];exact World.rangeAt_setCells_same _ _ _ _ HZ2.out.there
   have hB5:Below w.heap.size w w5:=by
    rw [HW5.out];exact Aa (by omega) _ _ _ hB2
   have HTZ:=iH HZ2.out.there;go_wp2_with (first | (refine Ab rfl 88 _ _ rfl w.heap.size 0 (rrA G) rfl rfl HTX Ag (by simp [Value.oneCell']) w2 HW2 ?_) | (refine qLk Bi HX2 ?_) | (refine Ab rfl 88 _ _ rfl (w.heap.size+1+1) 0 (rrA G) rfl rfl HTZ Ag (by simp [Value.oneCell']) w5 HW5 ?_));exact bodyPost_ret (Ad rfl _ _ (w.heap.size+1+1) (rrL G) _ rfl HR5 Tryz.underlying88 rfl Ag) rfl ⟨G,true,HEQ,rfl,hB5⟩
theorem Nx (wn:Wnt) (l f u:Int) (y:Wnt) (wanted:Bool) (c:Int) (w:World)  :
  Calls Tryz.prog 59 #[.agg #[.string wn.copy,.int .i64 wn.version,.string wn.hold,.int .i64 wn.pull,.int .i64 wn.start,.int .i64 wn.dies,.int .i64 wn.grace,.int .i64 6,.int .i64 l,.int .i64 f,.int .i64 u],.agg (wwA y),.bool wanted,.int .i64 c] w fun e w'=>∃ F:Rn,∃ k:Bool,(F,k)=Bd (⟨wn,6,l,f,u⟩:Rn) (!(wanted && eqW y wn)) c∧e=.returned (.tuple #[.agg (rrA F),.bool k])∧Below w.heap.size w w':=by
 have HX0:=Blk.alloc w #[.string wn.copy,.int .i64 wn.version,.string wn.hold,.int .i64 wn.pull,.int .i64 wn.start,.int .i64 wn.dies,.int .i64 wn.grace,.int .i64 6,.int .i64 l,.int .i64 f,.int .i64 u] 88;have HY0:Blk (w.heap.size+1) (wwA y) 86 ((w.alloc (.cells #[.string wn.copy,.int .i64 wn.version,.string wn.hold,.int .i64 wn.pull,.int .i64 wn.start,.int .i64 wn.dies,.int .i64 wn.grace,.int .i64 6,.int .i64 l,.int .i64 f,.int .i64 u] 88)).alloc (.cells (wwA y) 86)):=by
  have:=Blk.alloc (w.alloc (.cells #[.string wn.copy,.int .i64 wn.version,.string wn.hold,.int .i64 wn.pull,.int .i64 wn.start,.int .i64 wn.dies,.int .i64 wn.grace,.int .i64 6,.int .i64 l,.int .i64 f,.int .i64 u] 88)) (wwA y) 86;simpa using this
 have hba:=(Below.refl _ (w.alloc (.cells #[.string wn.copy,.int .i64 wn.version,.string wn.hold,.int .i64 wn.pull,.int .i64 wn.start,.int .i64 wn.dies,.int .i64 wn.grace,.int .i64 6,.int .i64 l,.int .i64 f,.int .i64 u] 88))).alloc nL (Obj.cells (wwA y) 86);have hbb:=(Below.refl _ ((w.alloc (.cells #[.string wn.copy,.int .i64 wn.version,.string wn.hold,.int .i64 wn.pull,.int .i64 wn.start,.int .i64 wn.dies,.int .i64 wn.grace,.int .i64 6,.int .i64 l,.int .i64 f,.int .i64 u] 88)).alloc (.cells (wwA y) 86))).alloc nL (Obj.cells RrA 88);have HZ:Hid (Blk (w.heap.size+1+1) RrA 88 (((w.alloc (.cells #[.string wn.copy,.int .i64 wn.version,.string wn.hold,.int .i64 wn.pull,.int .i64 wn.start,.int .i64 wn.dies,.int .i64 wn.grace,.int .i64 6,.int .i64 l,.int .i64 f,.int .i64 u] 88)).alloc (.cells (wwA y) 86)).alloc (.cells RrA 88))):=by
  show Blk _ _ _ _
  have:=Blk.alloc ((w.alloc (.cells #[.string wn.copy,.int .i64 wn.version,.string wn.hold,.int .i64 wn.pull,.int .i64 wn.start,.int .i64 wn.dies,.int .i64 wn.grace,.int .i64 6,.int .i64 l,.int .i64 f,.int .i64 u] 88)).alloc (.cells (wwA y) 86)) RrA 88;simpa using this
 have HX:Hid (Blk w.heap.size #[.string wn.copy,.int .i64 wn.version,.string wn.hold,.int .i64 wn.pull,.int .i64 wn.start,.int .i64 wn.dies,.int .i64 wn.grace,.int .i64 6,.int .i64 l,.int .i64 f,.int .i64 u] 88 (((w.alloc (.cells #[.string wn.copy,.int .i64 wn.version,.string wn.hold,.int .i64 wn.pull,.int .i64 wn.start,.int .i64 wn.dies,.int .i64 wn.grace,.int .i64 6,.int .i64 l,.int .i64 f,.int .i64 u] 88)).alloc (.cells (wwA y) 86)).alloc (.cells RrA 88))):=(HX0.below hba HX0.lt).below hbb (HX0.below hba HX0.lt).lt;have HY:Hid (Blk (w.heap.size+1) (wwA y) 86 (((w.alloc (.cells #[.string wn.copy,.int .i64 wn.version,.string wn.hold,.int .i64 wn.pull,.int .i64 wn.start,.int .i64 wn.dies,.int .i64 wn.grace,.int .i64 6,.int .i64 l,.int .i64 f,.int .i64 u] 88)).alloc (.cells (wwA y) 86)).alloc (.cells RrA 88))):=HY0.below hbb HY0.lt;have hB0:Below w.heap.size w (((w.alloc (.cells #[.string wn.copy,.int .i64 wn.version,.string wn.hold,.int .i64 wn.pull,.int .i64 wn.start,.int .i64 wn.dies,.int .i64 wn.grace,.int .i64 6,.int .i64 l,.int .i64 f,.int .i64 u] 88)).alloc (.cells (wwA y) 86)).alloc (.cells RrA 88)):=by go_grown
 clear HX0 HY0 hba hbb;go_enter Tryz.func59,Tryz.ntmps59;go_upto_region 1 with fail;generalize ((w.alloc (Obj.cells #[.string wn.copy,.int .i64 wn.version,.string wn.hold,.int .i64 wn.pull,.int .i64 wn.start,.int .i64 wn.dies,.int .i64 wn.grace,.int .i64 6,.int .i64 l,.int .i64 f,.int .i64 u] 88)).alloc (Obj.cells (wwA y) 86)).alloc (Obj.cells RrA 88)=w0 at *;have hq:∀ w,(Op.equalIn 10000 86 (.agg (wwA y)) (.agg (wwA wn))).run Tryz.prog w=.ok (eqW y wn) w:=fun w=>Fu y wn w
 have hgd:=Fr;have k0:w0.cell? ⟨w.heap.size,0,none⟩=some (.string wn.copy):=HX.out.cell rfl;have k1:w0.cell? ⟨w.heap.size,1,none⟩=some (.int .i64 wn.version):=HX.out.cell rfl;have k2:w0.cell? ⟨w.heap.size,2,none⟩=some (.string wn.hold):=HX.out.cell rfl;have k3:w0.cell? ⟨w.heap.size,3,none⟩=some (.int .i64 wn.pull):=HX.out.cell rfl;have k4:w0.cell? ⟨w.heap.size,4,none⟩=some (.int .i64 wn.start):=HX.out.cell rfl;have k5:w0.cell? ⟨w.heap.size,5,none⟩=some (.int .i64 wn.dies):=HX.out.cell rfl;have k6:w0.cell? ⟨w.heap.size,6,none⟩=some (.int .i64 wn.grace):=HX.out.cell rfl;have k7:w0.cell? ⟨w.heap.size,7,none⟩=some (.int .i64 6):=HX.out.cell rfl;have k8:w0.cell? ⟨w.heap.size,8,none⟩=some (.int .i64 l):=HX.out.cell rfl;have f7:w0.frozen? ⟨w.heap.size,7,none⟩=false:=HX.out.frozen _;have f8:w0.frozen? ⟨w.heap.size,8,none⟩=false:=HX.out.frozen _;have l0:w0.cell? ⟨w.heap.size+1,0,none⟩=some (.string y.copy):=HY.out.cell rfl;have l1:w0.cell? ⟨w.heap.size+1,1,none⟩=some (.int .i64 y.version):=HY.out.cell rfl;have l2:w0.cell? ⟨w.heap.size+1,2,none⟩=some (.string y.hold):=HY.out.cell rfl;have l3:w0.cell? ⟨w.heap.size+1,3,none⟩=some (.int .i64 y.pull):=HY.out.cell rfl;have l4:w0.cell? ⟨w.heap.size+1,4,none⟩=some (.int .i64 y.start):=HY.out.cell rfl;have l5:w0.cell? ⟨w.heap.size+1,5,none⟩=some (.int .i64 y.dies):=HY.out.cell rfl;have l6:w0.cell? ⟨w.heap.size+1,6,none⟩=some (.int .i64 y.grace):=HY.out.cell rfl
 cases wanted with
 | false =>
  by_cases hl:1<l
  ·skip
   have HEQ:Hid (((⟨wn,6,wrap64 (l - 1),f,u⟩:Rn),true)=Bd (⟨wn,6,l,f,u⟩:Rn) (!(false && eqW y wn)) c):=by
    show _=_
    skip;simp [Bd,hl]
   have HXs:Hid (Blk w.heap.size #[.string wn.copy,.int .i64 wn.version,.string wn.hold,.int .i64 wn.pull,.int .i64 wn.start,.int .i64 wn.dies,.int .i64 wn.grace,.int .i64 6,.int .i64 (wrap64 (l - 1)),.int .i64 f,.int .i64 u] 88 (w0.setCell ⟨w.heap.size,8,none⟩ (.int .i64 (wrap64 (l - 1))))):=(HX.out.set 8 _);have HZs:Hid (Blk (w.heap.size+1+1) RrA 88 (w0.setCell ⟨w.heap.size,8,none⟩ (.int .i64 (wrap64 (l - 1))))):=(HZ.out.other (by simp;omega) _);have hBs:Below w.heap.size w (w0.setCell ⟨w.heap.size,8,none⟩ (.int .i64 (wrap64 (l - 1)))):=(hB0.setCell (p:=⟨w.heap.size,8,none⟩) nL _);obtain ⟨w5,HW5⟩:∃ w5,Hid (w5=((w0.setCell ⟨w.heap.size,8,none⟩ (.int .i64 (wrap64 (l - 1))))).setCells (w.heap.size+1+1) 0 [.string wn.copy,.int .i64 wn.version,.string wn.hold,.int .i64 wn.pull,.int .i64 wn.start,.int .i64 wn.dies,.int .i64 wn.grace,.int .i64 6,.int .i64 (wrap64 (l - 1)),.int .i64 f,.int .i64 u]):=⟨_,rfl⟩;have HR5:Hid (w5.rangeAt (w.heap.size+1+1) 0 [.string wn.copy,.int .i64 wn.version,.string wn.hold,.int .i64 wn.pull,.int .i64 wn.start,.int .i64 wn.dies,.int .i64 wn.grace,.int .i64 6,.int .i64 (wrap64 (l - 1)),.int .i64 f,.int .i64 u]):=by
    show World.rangeAt _ _ _ _
    rw [HW5.out];exact World.rangeAt_setCells_same _ _ _ _ HZs.out.there
   have hB5:Below w.heap.size w w5:=by
    rw [HW5.out];exact Aa (by omega) _ _ _ hBs
   have HTZ:=iH HZs.out.there;go_wp2_with (first | (refine qLk Bi HXs ?_) | (refine Ab rfl 88 _ _ rfl (w.heap.size+1+1) 0 #[.string wn.copy,.int .i64 wn.version,.string wn.hold,.int .i64 wn.pull,.int .i64 wn.start,.int .i64 wn.dies,.int .i64 wn.grace,.int .i64 6,.int .i64 (wrap64 (l - 1)),.int .i64 f,.int .i64 u] rfl rfl HTZ Ag (by simp [Value.oneCell']) w5 HW5 ?_));exact bodyPost_ret (Ad rfl _ _ (w.heap.size+1+1) [.string wn.copy,.int .i64 wn.version,.string wn.hold,.int .i64 wn.pull,.int .i64 wn.start,.int .i64 wn.dies,.int .i64 wn.grace,.int .i64 6,.int .i64 (wrap64 (l - 1)),.int .i64 f,.int .i64 u] _ rfl HR5 Tryz.underlying88 rfl Ag) rfl ⟨(⟨wn,6,wrap64 (l - 1),f,u⟩:Rn),true,HEQ,rfl,hB5⟩
  have hl':l≤1:=by omega
  have HEQ:Hid ((Ec,false)=Bd (⟨wn,6,l,f,u⟩:Rn) (!(false && eqW y wn)) c):=by
   show _=_
   skip;simp [Bd,hl]
  clear hl;obtain ⟨w5,HW5⟩:∃ w5,Hid (w5=(w0).setCells (w.heap.size+1+1) 0 RrL):=⟨_,rfl⟩;have HR5:Hid (w5.rangeAt (w.heap.size+1+1) 0 RrL):=by
   show World.rangeAt _ _ _ _
   rw [HW5.out];exact World.rangeAt_setCells_same _ _ _ _ HZ.out.there
  have hB5:Below w.heap.size w w5:=by
   rw [HW5.out];exact Aa (by omega) _ _ _ hB0
  have HTZ:=iH HZ.out.there;go_wp2_with (first | (refine Ab rfl 88 _ _ rfl (w.heap.size+1+1) 0 RrA rfl rfl HTZ Ag (by simp [Value.oneCell']) w5 HW5 ?_));exact bodyPost_ret (Ad rfl _ _ (w.heap.size+1+1) RrL _ rfl HR5 Tryz.underlying88 rfl Ag) rfl ⟨Ec,false,HEQ,rfl,hB5⟩
 | true =>
  cases hE:eqW y wn with
  | false =>
   rw [hE] at hq;have HE:=iH hE;clear hE;by_cases hl:1<l
   ·skip
    have HEQ:Hid (((⟨wn,6,wrap64 (l - 1),f,u⟩:Rn),true)=Bd (⟨wn,6,l,f,u⟩:Rn) (!(true && eqW y wn)) c):=by
     show _=_
     rw [HE.out];simp [Bd,hl]
    have HXs:Hid (Blk w.heap.size #[.string wn.copy,.int .i64 wn.version,.string wn.hold,.int .i64 wn.pull,.int .i64 wn.start,.int .i64 wn.dies,.int .i64 wn.grace,.int .i64 6,.int .i64 (wrap64 (l - 1)),.int .i64 f,.int .i64 u] 88 (w0.setCell ⟨w.heap.size,8,none⟩ (.int .i64 (wrap64 (l - 1))))):=(HX.out.set 8 _);have HZs:Hid (Blk (w.heap.size+1+1) RrA 88 (w0.setCell ⟨w.heap.size,8,none⟩ (.int .i64 (wrap64 (l - 1))))):=(HZ.out.other (by simp;omega) _);have hBs:Below w.heap.size w (w0.setCell ⟨w.heap.size,8,none⟩ (.int .i64 (wrap64 (l - 1)))):=(hB0.setCell (p:=⟨w.heap.size,8,none⟩) nL _);obtain ⟨w5,HW5⟩:∃ w5,Hid (w5=((w0.setCell ⟨w.heap.size,8,none⟩ (.int .i64 (wrap64 (l - 1))))).setCells (w.heap.size+1+1) 0 [.string wn.copy,.int .i64 wn.version,.string wn.hold,.int .i64 wn.pull,.int .i64 wn.start,.int .i64 wn.dies,.int .i64 wn.grace,.int .i64 6,.int .i64 (wrap64 (l - 1)),.int .i64 f,.int .i64 u]):=⟨_,rfl⟩;have HR5:Hid (w5.rangeAt (w.heap.size+1+1) 0 [.string wn.copy,.int .i64 wn.version,.string wn.hold,.int .i64 wn.pull,.int .i64 wn.start,.int .i64 wn.dies,.int .i64 wn.grace,.int .i64 6,.int .i64 (wrap64 (l - 1)),.int .i64 f,.int .i64 u]):=by
     show World.rangeAt _ _ _ _
     rw [HW5.out];exact World.rangeAt_setCells_same _ _ _ _ HZs.out.there
    have hB5:Below w.heap.size w w5:=by
     rw [HW5.out];exact Aa (by omega) _ _ _ hBs
    have HTZ:=iH HZs.out.there;go_wp2_with (first | (refine qLk Bi HXs ?_) | (refine Ab rfl 88 _ _ rfl (w.heap.size+1+1) 0 #[.string wn.copy,.int .i64 wn.version,.string wn.hold,.int .i64 wn.pull,.int .i64 wn.start,.int .i64 wn.dies,.int .i64 wn.grace,.int .i64 6,.int .i64 (wrap64 (l - 1)),.int .i64 f,.int .i64 u] rfl rfl HTZ Ag (by simp [Value.oneCell']) w5 HW5 ?_));exact bodyPost_ret (Ad rfl _ _ (w.heap.size+1+1) [.string wn.copy,.int .i64 wn.version,.string wn.hold,.int .i64 wn.pull,.int .i64 wn.start,.int .i64 wn.dies,.int .i64 wn.grace,.int .i64 6,.int .i64 (wrap64 (l - 1)),.int .i64 f,.int .i64 u] _ rfl HR5 Tryz.underlying88 rfl Ag) rfl ⟨(⟨wn,6,wrap64 (l - 1),f,u⟩:Rn),true,HEQ,rfl,hB5⟩
   have hl':l≤1:=by omega
   have HEQ:Hid ((Ec,false)=Bd (⟨wn,6,l,f,u⟩:Rn) (!(true && eqW y wn)) c):=by
    show _=_
    rw [HE.out];simp [Bd,hl]
   clear hl;obtain ⟨w5,HW5⟩:∃ w5,Hid (w5=(w0).setCells (w.heap.size+1+1) 0 RrL):=⟨_,rfl⟩;have HR5:Hid (w5.rangeAt (w.heap.size+1+1) 0 RrL):=by
    show World.rangeAt _ _ _ _
    rw [HW5.out];exact World.rangeAt_setCells_same _ _ _ _ HZ.out.there
   have hB5:Below w.heap.size w w5:=by
    rw [HW5.out];exact Aa (by omega) _ _ _ hB0
   have HTZ:=iH HZ.out.there;go_wp2_with (first | (refine Ab rfl 88 _ _ rfl (w.heap.size+1+1) 0 RrA rfl rfl HTZ Ag (by simp [Value.oneCell']) w5 HW5 ?_));exact bodyPost_ret (Ad rfl _ _ (w.heap.size+1+1) RrL _ rfl HR5 Tryz.underlying88 rfl Ag) rfl ⟨Ec,false,HEQ,rfl,hB5⟩
  | true =>
   rw [hE] at hq;have HE:=iH hE;clear hE;by_cases hl:1<l
   ·skip
    have HEQ:Hid (((⟨wn,6,wrap64 (l - 1),f,u⟩:Rn),true)=Bd (⟨wn,6,l,f,u⟩:Rn) (!(true && eqW y wn)) c):=by
     show _=_
     rw [HE.out];simp [Bd,hl]
    have HXs:Hid (Blk w.heap.size #[.string wn.copy,.int .i64 wn.version,.string wn.hold,.int .i64 wn.pull,.int .i64 wn.start,.int .i64 wn.dies,.int .i64 wn.grace,.int .i64 6,.int .i64 (wrap64 (l - 1)),.int .i64 f,.int .i64 u] 88 (w0.setCell ⟨w.heap.size,8,none⟩ (.int .i64 (wrap64 (l - 1))))):=(HX.out.set 8 _);have HZs:Hid (Blk (w.heap.size+1+1) RrA 88 (w0.setCell ⟨w.heap.size,8,none⟩ (.int .i64 (wrap64 (l - 1))))):=(HZ.out.other (by simp;omega) _);have hBs:Below w.heap.size w (w0.setCell ⟨w.heap.size,8,none⟩ (.int .i64 (wrap64 (l - 1)))):=(hB0.setCell (p:=⟨w.heap.size,8,none⟩) nL _);obtain ⟨w5,HW5⟩:∃ w5,Hid (w5=((w0.setCell ⟨w.heap.size,8,none⟩ (.int .i64 (wrap64 (l - 1))))).setCells (w.heap.size+1+1) 0 [.string wn.copy,.int .i64 wn.version,.string wn.hold,.int .i64 wn.pull,.int .i64 wn.start,.int .i64 wn.dies,.int .i64 wn.grace,.int .i64 6,.int .i64 (wrap64 (l - 1)),.int .i64 f,.int .i64 u]):=⟨_,rfl⟩;have HR5:Hid (w5.rangeAt (w.heap.size+1+1) 0 [.string wn.copy,.int .i64 wn.version,.string wn.hold,.int .i64 wn.pull,.int .i64 wn.start,.int .i64 wn.dies,.int .i64 wn.grace,.int .i64 6,.int .i64 (wrap64 (l - 1)),.int .i64 f,.int .i64 u]):=by
     show World.rangeAt _ _ _ _
     rw [HW5.out];exact World.rangeAt_setCells_same _ _ _ _ HZs.out.there
    have hB5:Below w.heap.size w w5:=by
     rw [HW5.out];exact Aa (by omega) _ _ _ hBs
    have HTZ:=iH HZs.out.there;go_wp2_with (first | (refine qLk Bi HXs ?_) | (refine Ab rfl 88 _ _ rfl (w.heap.size+1+1) 0 #[.string wn.copy,.int .i64 wn.version,.string wn.hold,.int .i64 wn.pull,.int .i64 wn.start,.int .i64 wn.dies,.int .i64 wn.grace,.int .i64 6,.int .i64 (wrap64 (l - 1)),.int .i64 f,.int .i64 u] rfl rfl HTZ Ag (by simp [Value.oneCell']) w5 HW5 ?_));exact bodyPost_ret (Ad rfl _ _ (w.heap.size+1+1) [.string wn.copy,.int .i64 wn.version,.string wn.hold,.int .i64 wn.pull,.int .i64 wn.start,.int .i64 wn.dies,.int .i64 wn.grace,.int .i64 6,.int .i64 (wrap64 (l - 1)),.int .i64 f,.int .i64 u] _ rfl HR5 Tryz.underlying88 rfl Ag) rfl ⟨(⟨wn,6,wrap64 (l - 1),f,u⟩:Rn),true,HEQ,rfl,hB5⟩
   have hl':l≤1:=by omega
   have HEQ:Hid ((Ec,false)=Bd (⟨wn,6,l,f,u⟩:Rn) (!(true && eqW y wn)) c):=by
    show _=_
    rw [HE.out];simp [Bd,hl]
   clear hl;obtain ⟨w5,HW5⟩:∃ w5,Hid (w5=(w0).setCells (w.heap.size+1+1) 0 RrL):=⟨_,rfl⟩;have HR5:Hid (w5.rangeAt (w.heap.size+1+1) 0 RrL):=by
    show World.rangeAt _ _ _ _
    rw [HW5.out];exact World.rangeAt_setCells_same _ _ _ _ HZ.out.there
   have hB5:Below w.heap.size w w5:=by
    rw [HW5.out];exact Aa (by omega) _ _ _ hB0
   have HTZ:=iH HZ.out.there;go_wp2_with (first | (refine Ab rfl 88 _ _ rfl (w.heap.size+1+1) 0 RrA rfl rfl HTZ Ag (by simp [Value.oneCell']) w5 HW5 ?_));exact bodyPost_ret (Ad rfl _ _ (w.heap.size+1+1) RrL _ rfl HR5 Tryz.underlying88 rfl Ag) rfl ⟨Ec,false,HEQ,rfl,hB5⟩
end Go.Proofs.YtkiloaiffopllaaGreat
