import Derived.Test.YtkiloaiffopllaaGreatTta
set_option maxHeartbeats 8000000
set_option maxRecDepth 100000
namespace Go.Proofs.YtkiloaiffopllaaGreat
open Go.RowKit Go.WideMaps Go.Maps
theorem Dg {P:Program} {op:Oper} {a:Act} {w w':World} {K:Act→World→Prop} {Q:Exit→Act→World→Prop} (m x v:Operand) (t:TypeId) (hop:op.op=Op.mapUpdate t m x v) (b:Nat) (key val:Value)
  (hm:a.eval m=.map (some b)) (hx:a.eval x=key) (hv:a.eval v=val) (hrun:(Instr.mapUpdate t (.map (some b)) key val).run P w=.ok () w') (hK:K (a.put op.dst undef) w'):op.wp P a w K Q:=by
 unfold Oper.wp;simp [execOp,hop,hm,hx,hv,hrun,Result.andThen];exact hK
theorem Un (G:TG) (kb:Nat) (y:Mte) (ps:List Pcl) (w:World) (h:TkI G kb y ps w) (hkb:kb≤1500000) (s:BA) (hs:s.size≤20) :
  Calls Tryz.prog 116 #[.pointer (some ⟨G.p,0,none⟩),.string s] w fun e w'=>e=.returned (.tuple #[])∧TkI G (kb+1) (Bh y s) ps w'∧Ke G w w':=by
 have HH:=iH h;have hpl:G.p<w.heap.size:=h.hP.lt;have hgp:G.p≠w.heap.size:=by omega
 have kp11:w.cell? ⟨G.p,11,none⟩=some (.map (some G.m3)):=HH.out.hP.cell rfl
 cases hf:y.asks.find? (fun a=>decide (a.hold=s)) with
 | none =>
  have yl:=(h.lookA hs).2 hf;have HE:Hid (Bh y s=y):=by show _=_;unfold Bh;rw [hf]
  clear hf h;go_enter Tryz.func116,Tryz.ntmps116;go_wp2_with fail
  first | go_end0 | ((try simp only [Exit.inBlock,Exit.then]);refine bodyPost_ret (results_none rfl _ _ _) rfl ?_)
  exact ⟨rfl,by rw [HE.out];exact (HH.out.alloc _).more (by omega),Ke.below ((Below.refl _ _).alloc nL _) HH.out.sbl⟩
 | some x =>
  have yl:=(h.lookA hs).1 x hf;have HXH:Hid (x.hold=s):=(Dz hf).2;have HXM:Hid (x∈y.asks):=(Dz hf).1;have HX0:=iH (h.bx (aaA x) 52);have HE:Hid (Bh y s={ y with asks:=y.asks.filter (fun g=>!decide (g.hold=s)),gives:=if y.gives.length<40 then Az (·.hold) y.gives x else y.gives }):=by show _=_;unfold Bh;rw [hf]
  have HOK0:Hid (TOk (Bh y s)):=h.ok.giveUp s;clear hf h;go_enter Tryz.func116,Tryz.ntmps116;go_upto_region 2 with fail;have HT1:=iH (HH.out.alloc (.cells (aaA x) 52));have HK1:Hid (Ke G w (w.alloc (Obj.cells (aaA x) 52))):=Ke.below ((Below.refl _ _).alloc nL _) HH.out.sbl;generalize (w.alloc (Obj.cells (aaA x) 52))=w1 at *;generalize w.heap.size=g at *;clear yl kp11 HH;have hok1:TOk { y with asks:=y.asks.filter (fun z=>!decide (z.hold=s)) }:=HT1.out.ok.ag (fun b hb=>HT1.out.ok.z7 b (List.mem_filter.1 hb).1) HT1.out.ok.z8 (lT (List.length_filter_le _ _) HT1.out.ok.l7) HT1.out.ok.l8 (List.Pairwise.sublist List.filter_sublist HT1.out.ok.A7) HT1.out.ok.A8 (fun b hb=>HT1.out.ok.ab b (List.mem_filter.1 hb).1) (fun b hb=>HT1.out.ok.hd b (List.mem_filter.1 hb).1);obtain ⟨w2,hrun,hT2,hg2,hK2⟩:=HT1.out.del3 s hs hok1;have HT:=iH hT2;have HX:=iH (HX0.out.ke hK2);have HK2:=iH (HK1.out.trans hK2);have kp11:w1.cell? ⟨G.p,11,none⟩=some (.map (some G.m3)):=HT1.out.hP.cell rfl;clear hok1 hT2 hg2 hK2 HX0 HK1 HT1;go_upto_region 3 with (at_delete;refine Rf rfl _ _ 121 9 rfl G.m3 _ rfl rfl hrun ?_);clear hrun kp11;obtain ⟨Y,hY⟩:∃ Y,Y={ y with asks:=y.asks.filter (fun z=>!decide (z.hold=s)) }:=⟨_,rfl⟩;rw [← hY] at HT;have HGL:Hid (Y.gives=y.gives):=by show _=_;rw [hY]
  have HEY:Hid (Bh y s={ Y with gives:=if Y.gives.length<40 then Az (·.hold) Y.gives x else Y.gives }):=by show _=_;rw [HE.out,hY]
  clear hY HE;have kp12:w2.cell? ⟨G.p,12,none⟩=some (.map (some G.m4)):=HT.out.hP.cell rfl;have hl:=HT.out.len4;by_cases hc:(Y.gives.length:Int)<40
  ·have HOK:Hid (TOk { Y with gives:=Az (·.hold) Y.gives x }):=by show TOk _;have:=HOK0.out;rw [HEY.out,if_pos (by omega)] at this;exact this
   go_upto_region 4 with (at_len;refine Kz rfl _ 121 rfl G.m4 _ rfl hl ?_);clear kp12 hl;have HTd:=iH HT.out.drew;refine wp_region_held_drew (S:=fun wy=>Blk G.p #[.string Y.name,.bool Y.up,.int .i64 Y.clock,.bool Y.known,.int .i64 Y.seen,.slice G.a5 Y.wants.length G.c5,.slice G.o6 G.k6 G.j6,.slice G.o7 G.k7 G.j7,.slice G.o8 G.k8 G.j8,.map (some G.m1),.map (some G.m2),.map (some G.m3),.map (some G.m4)] 125 wy∧Ke G w2 wy) (by kernel_rfl) ⟨HTd.out.hP,Ke.drew _⟩ (fun hS=>?_);generalize w2.drew=wd at hS HTd ⊢;refine tz 0 28 (.pointer (some ⟨G.p,0,none⟩)) rfl hS ?_;simp only [pX];refine tz 1 29 (.pointer (some ⟨G.p,0,none⟩)) rfl hS ?_;simp only [pX];refine tz 2 30 (.pointer (some ⟨G.p,12,none⟩)) rfl hS ?_;simp only [pX];refine tl 3 31 (.map (some G.m4)) ⟨G.p,12,none⟩ rfl (fun wy hy=>(hy.1).cell rfl) hS ?_;simp only [pX];refine tz 4 32 (.string s) rfl hS ?_;simp only [pX];refine tk 5 ⟨some 33,_,_,_,_,none⟩ (.agg (aaA x)) rfl (yieldsIf_load_mid (by rfl) _ _ rfl g (0) rfl (aaL x) _ (fun _ h=>((HX.out.ke h.2).b).rangeA) Tryz.underlying52 rfl Bu) hS ?_;simp only [pX];refine rd1 6 ⟨none,_,_,_,_,none⟩ rfl (fun K hK=>?_);obtain ⟨w3,hrun,hT3,hg3,hK3⟩:=HTd.out.put4 x HXH (by rw [HXH.out];exact hs) (by omega) HOK;rw [if_pos (by rfl)];refine Dg (.tmp 31) (.tmp 32) (.tmp 33) 121 (by rfl) G.m4 _ _ (by rfl) (by rfl) (by rfl) hrun ?_;have HT3:=iH hT3;have HK3:=iH (HK2.out.trans (hS.2.trans hK3));refine hK.out _ _ ⟨hT3.hP,hS.2.trans hK3⟩ (fun hS=>?_);clear hK K hrun hT3 hg3 hK3;refine td ?_;clear hS;go_wp2_with fail
   first | go_end0 | ((try simp only [Exit.inBlock,Exit.then]);refine bodyPost_ret (results_none rfl _ _ _) rfl ?_)
   refine ⟨rfl,?_,HK3⟩;rw [HEY.out,if_pos (by omega)];exact HT3.out
  ·go_wp2_with (at_len;refine Kz rfl _ 121 rfl G.m4 _ rfl hl ?_)
   first | go_end0 | ((try simp only [Exit.inBlock,Exit.then]);refine bodyPost_ret (results_none rfl _ _ _) rfl ?_)
   refine ⟨rfl,?_,HK2⟩;rw [HEY.out,if_neg (by omega)];exact HT.out.more (by omega)
end Go.Proofs.YtkiloaiffopllaaGreat
namespace Go.Proofs.YtkiloaiffopllaaGreat
open Go.RowKit
theorem Oi (wn:Wnt) (l f u:Int) (y:Wnt) (wanted:Bool) (c:Int) (w:World)  :
  Calls Tryz.prog 59 #[.agg #[.string wn.copy,.int .i64 wn.version,.string wn.hold,.int .i64 wn.pull,.int .i64 wn.start,.int .i64 wn.dies,.int .i64 wn.grace,.int .i64 1,.int .i64 l,.int .i64 f,.int .i64 u],.agg (wwA y),.bool wanted,.int .i64 c] w fun e w'=>∃ F:Rn,∃ k:Bool,(F,k)=Bd (⟨wn,1,l,f,u⟩:Rn) (!(wanted && eqW y wn)) c∧e=.returned (.tuple #[.agg (rrA F),.bool k])∧Below w.heap.size w w':=by
 have HX0:=Blk.alloc w #[.string wn.copy,.int .i64 wn.version,.string wn.hold,.int .i64 wn.pull,.int .i64 wn.start,.int .i64 wn.dies,.int .i64 wn.grace,.int .i64 1,.int .i64 l,.int .i64 f,.int .i64 u] 88;have HY0:Blk (w.heap.size+1) (wwA y) 86 ((w.alloc (.cells #[.string wn.copy,.int .i64 wn.version,.string wn.hold,.int .i64 wn.pull,.int .i64 wn.start,.int .i64 wn.dies,.int .i64 wn.grace,.int .i64 1,.int .i64 l,.int .i64 f,.int .i64 u] 88)).alloc (.cells (wwA y) 86)):=by
  have:=Blk.alloc (w.alloc (.cells #[.string wn.copy,.int .i64 wn.version,.string wn.hold,.int .i64 wn.pull,.int .i64 wn.start,.int .i64 wn.dies,.int .i64 wn.grace,.int .i64 1,.int .i64 l,.int .i64 f,.int .i64 u] 88)) (wwA y) 86;simpa using this
 have hba:=(Below.refl _ (w.alloc (.cells #[.string wn.copy,.int .i64 wn.version,.string wn.hold,.int .i64 wn.pull,.int .i64 wn.start,.int .i64 wn.dies,.int .i64 wn.grace,.int .i64 1,.int .i64 l,.int .i64 f,.int .i64 u] 88))).alloc nL (Obj.cells (wwA y) 86);have hbb:=(Below.refl _ ((w.alloc (.cells #[.string wn.copy,.int .i64 wn.version,.string wn.hold,.int .i64 wn.pull,.int .i64 wn.start,.int .i64 wn.dies,.int .i64 wn.grace,.int .i64 1,.int .i64 l,.int .i64 f,.int .i64 u] 88)).alloc (.cells (wwA y) 86))).alloc nL (Obj.cells RrA 88);have HZ:Hid (Blk (w.heap.size+1+1) RrA 88 (((w.alloc (.cells #[.string wn.copy,.int .i64 wn.version,.string wn.hold,.int .i64 wn.pull,.int .i64 wn.start,.int .i64 wn.dies,.int .i64 wn.grace,.int .i64 1,.int .i64 l,.int .i64 f,.int .i64 u] 88)).alloc (.cells (wwA y) 86)).alloc (.cells RrA 88))):=by
  show Blk _ _ _ _
  have:=Blk.alloc ((w.alloc (.cells #[.string wn.copy,.int .i64 wn.version,.string wn.hold,.int .i64 wn.pull,.int .i64 wn.start,.int .i64 wn.dies,.int .i64 wn.grace,.int .i64 1,.int .i64 l,.int .i64 f,.int .i64 u] 88)).alloc (.cells (wwA y) 86)) RrA 88;simpa using this
 have HX:Hid (Blk w.heap.size #[.string wn.copy,.int .i64 wn.version,.string wn.hold,.int .i64 wn.pull,.int .i64 wn.start,.int .i64 wn.dies,.int .i64 wn.grace,.int .i64 1,.int .i64 l,.int .i64 f,.int .i64 u] 88 (((w.alloc (.cells #[.string wn.copy,.int .i64 wn.version,.string wn.hold,.int .i64 wn.pull,.int .i64 wn.start,.int .i64 wn.dies,.int .i64 wn.grace,.int .i64 1,.int .i64 l,.int .i64 f,.int .i64 u] 88)).alloc (.cells (wwA y) 86)).alloc (.cells RrA 88))):=(HX0.below hba HX0.lt).below hbb (HX0.below hba HX0.lt).lt;have HY:Hid (Blk (w.heap.size+1) (wwA y) 86 (((w.alloc (.cells #[.string wn.copy,.int .i64 wn.version,.string wn.hold,.int .i64 wn.pull,.int .i64 wn.start,.int .i64 wn.dies,.int .i64 wn.grace,.int .i64 1,.int .i64 l,.int .i64 f,.int .i64 u] 88)).alloc (.cells (wwA y) 86)).alloc (.cells RrA 88))):=HY0.below hbb HY0.lt;have hB0:Below w.heap.size w (((w.alloc (.cells #[.string wn.copy,.int .i64 wn.version,.string wn.hold,.int .i64 wn.pull,.int .i64 wn.start,.int .i64 wn.dies,.int .i64 wn.grace,.int .i64 1,.int .i64 l,.int .i64 f,.int .i64 u] 88)).alloc (.cells (wwA y) 86)).alloc (.cells RrA 88)):=by go_grown
 clear HX0 HY0 hba hbb;go_enter Tryz.func59,Tryz.ntmps59;go_upto_region 1 with fail;generalize ((w.alloc (Obj.cells #[.string wn.copy,.int .i64 wn.version,.string wn.hold,.int .i64 wn.pull,.int .i64 wn.start,.int .i64 wn.dies,.int .i64 wn.grace,.int .i64 1,.int .i64 l,.int .i64 f,.int .i64 u] 88)).alloc (Obj.cells (wwA y) 86)).alloc (Obj.cells RrA 88)=w0 at *;have hq:∀ w,(Op.equalIn 10000 86 (.agg (wwA y)) (.agg (wwA wn))).run Tryz.prog w=.ok (eqW y wn) w:=fun w=>Fu y wn w
 have hgd:=Fr;have k0:w0.cell? ⟨w.heap.size,0,none⟩=some (.string wn.copy):=HX.out.cell rfl;have k1:w0.cell? ⟨w.heap.size,1,none⟩=some (.int .i64 wn.version):=HX.out.cell rfl;have k2:w0.cell? ⟨w.heap.size,2,none⟩=some (.string wn.hold):=HX.out.cell rfl;have k3:w0.cell? ⟨w.heap.size,3,none⟩=some (.int .i64 wn.pull):=HX.out.cell rfl;have k4:w0.cell? ⟨w.heap.size,4,none⟩=some (.int .i64 wn.start):=HX.out.cell rfl;have k5:w0.cell? ⟨w.heap.size,5,none⟩=some (.int .i64 wn.dies):=HX.out.cell rfl;have k6:w0.cell? ⟨w.heap.size,6,none⟩=some (.int .i64 wn.grace):=HX.out.cell rfl;have k7:w0.cell? ⟨w.heap.size,7,none⟩=some (.int .i64 1):=HX.out.cell rfl;have k8:w0.cell? ⟨w.heap.size,8,none⟩=some (.int .i64 l):=HX.out.cell rfl;have f7:w0.frozen? ⟨w.heap.size,7,none⟩=false:=HX.out.frozen _;have f8:w0.frozen? ⟨w.heap.size,8,none⟩=false:=HX.out.frozen _;have l0:w0.cell? ⟨w.heap.size+1,0,none⟩=some (.string y.copy):=HY.out.cell rfl;have l1:w0.cell? ⟨w.heap.size+1,1,none⟩=some (.int .i64 y.version):=HY.out.cell rfl;have l2:w0.cell? ⟨w.heap.size+1,2,none⟩=some (.string y.hold):=HY.out.cell rfl;have l3:w0.cell? ⟨w.heap.size+1,3,none⟩=some (.int .i64 y.pull):=HY.out.cell rfl;have l4:w0.cell? ⟨w.heap.size+1,4,none⟩=some (.int .i64 y.start):=HY.out.cell rfl;have l5:w0.cell? ⟨w.heap.size+1,5,none⟩=some (.int .i64 y.dies):=HY.out.cell rfl;have l6:w0.cell? ⟨w.heap.size+1,6,none⟩=some (.int .i64 y.grace):=HY.out.cell rfl
 cases wanted with
 | false =>
  have HEQ:Hid ((Ec,false)=Bd (⟨wn,1,l,f,u⟩:Rn) (!(false && eqW y wn)) c):=by
   show _=_
   skip;simp [Bd,alB]
  go_wp2_with (first | (refine qLk Bi HX ?_));refine (Av (⟨wn,1,l,f,u⟩:Rn) _).mono ?_;rintro e w1 ⟨rfl,hb1⟩;have HX1:=qBk HX hb1;have HZ1:=qBk HZ hb1;have hB1:=qTr hB0 hb1;simp only [];rw [show alB 1=false from rfl];clear hq hgd k0 k1 k2 k3 k4 k5 k6 l0 l1 l2 l3 l4 l5 l6 k7 k8 f7 f8 hb1 hB0 HX HZ HY;obtain ⟨w5,HW5⟩:∃ w5,Hid (w5=(w1).setCells (w.heap.size+1+1) 0 RrL):=⟨_,rfl⟩;have HR5:Hid (w5.rangeAt (w.heap.size+1+1) 0 RrL):=by
   show World.rangeAt _ _ _ _
   rw [HW5.out];exact World.rangeAt_setCells_same _ _ _ _ HZ1.out.there
  have hB5:Below w.heap.size w w5:=by
   rw [HW5.out];exact Aa (by omega) _ _ _ hB1
  have HTZ:=iH HZ1.out.there;go_wp2_with (first | (refine Ab rfl 88 _ _ rfl (w.heap.size+1+1) 0 RrA rfl rfl HTZ Ag (by simp [Value.oneCell']) w5 HW5 ?_));exact bodyPost_ret (Ad rfl _ _ (w.heap.size+1+1) RrL _ rfl HR5 Tryz.underlying88 rfl Ag) rfl ⟨Ec,false,HEQ,rfl,hB5⟩
 | true =>
  cases hE:eqW y wn with
  | false =>
   rw [hE] at hq;have HE:=iH hE;clear hE;have HEQ:Hid ((Ec,false)=Bd (⟨wn,1,l,f,u⟩:Rn) (!(true && eqW y wn)) c):=by
    show _=_
    rw [HE.out];simp [Bd,alB]
   go_wp2_with (first | (refine qLk Bi HX ?_));refine (Av (⟨wn,1,l,f,u⟩:Rn) _).mono ?_;rintro e w1 ⟨rfl,hb1⟩;have HX1:=qBk HX hb1;have HZ1:=qBk HZ hb1;have hB1:=qTr hB0 hb1;simp only [];rw [show alB 1=false from rfl];clear hq hgd k0 k1 k2 k3 k4 k5 k6 l0 l1 l2 l3 l4 l5 l6 k7 k8 f7 f8 hb1 hB0 HX HZ HY;obtain ⟨w5,HW5⟩:∃ w5,Hid (w5=(w1).setCells (w.heap.size+1+1) 0 RrL):=⟨_,rfl⟩;have HR5:Hid (w5.rangeAt (w.heap.size+1+1) 0 RrL):=by
    show World.rangeAt _ _ _ _
    rw [HW5.out];exact World.rangeAt_setCells_same _ _ _ _ HZ1.out.there
   have hB5:Below w.heap.size w w5:=by
    rw [HW5.out];exact Aa (by omega) _ _ _ hB1
   have HTZ:=iH HZ1.out.there;go_wp2_with (first | (refine Ab rfl 88 _ _ rfl (w.heap.size+1+1) 0 RrA rfl rfl HTZ Ag (by simp [Value.oneCell']) w5 HW5 ?_));exact bodyPost_ret (Ad rfl _ _ (w.heap.size+1+1) RrL _ rfl HR5 Tryz.underlying88 rfl Ag) rfl ⟨Ec,false,HEQ,rfl,hB5⟩
  | true =>
   rw [hE] at hq;have HE:=iH hE;clear hE;by_cases hl:1<l
   ·skip
    have HEQ:Hid (((⟨wn,1,wrap64 (l - 1),f,u⟩:Rn),true)=Bd (⟨wn,1,l,f,u⟩:Rn) (!(true && eqW y wn)) c):=by
     show _=_
     rw [HE.out];simp [Bd,hl]
    have HXs:Hid (Blk w.heap.size #[.string wn.copy,.int .i64 wn.version,.string wn.hold,.int .i64 wn.pull,.int .i64 wn.start,.int .i64 wn.dies,.int .i64 wn.grace,.int .i64 1,.int .i64 (wrap64 (l - 1)),.int .i64 f,.int .i64 u] 88 (w0.setCell ⟨w.heap.size,8,none⟩ (.int .i64 (wrap64 (l - 1))))):=(HX.out.set 8 _);have HZs:Hid (Blk (w.heap.size+1+1) RrA 88 (w0.setCell ⟨w.heap.size,8,none⟩ (.int .i64 (wrap64 (l - 1))))):=(HZ.out.other (by simp;omega) _);have hBs:Below w.heap.size w (w0.setCell ⟨w.heap.size,8,none⟩ (.int .i64 (wrap64 (l - 1)))):=(hB0.setCell (p:=⟨w.heap.size,8,none⟩) nL _);obtain ⟨w5,HW5⟩:∃ w5,Hid (w5=((w0.setCell ⟨w.heap.size,8,none⟩ (.int .i64 (wrap64 (l - 1))))).setCells (w.heap.size+1+1) 0 [.string wn.copy,.int .i64 wn.version,.string wn.hold,.int .i64 wn.pull,.int .i64 wn.start,.int .i64 wn.dies,.int .i64 wn.grace,.int .i64 1,.int .i64 (wrap64 (l - 1)),.int .i64 f,.int .i64 u]):=⟨_,rfl⟩;have HR5:Hid (w5.rangeAt (w.heap.size+1+1) 0 [.string wn.copy,.int .i64 wn.version,.string wn.hold,.int .i64 wn.pull,.int .i64 wn.start,.int .i64 wn.dies,.int .i64 wn.grace,.int .i64 1,.int .i64 (wrap64 (l - 1)),.int .i64 f,.int .i64 u]):=by
     show World.rangeAt _ _ _ _
     rw [HW5.out];exact World.rangeAt_setCells_same _ _ _ _ HZs.out.there
    have hB5:Below w.heap.size w w5:=by
     rw [HW5.out];exact Aa (by omega) _ _ _ hBs
    have HTZ:=iH HZs.out.there;go_wp2_with (first | (refine qLk Bi HXs ?_) | (refine Ab rfl 88 _ _ rfl (w.heap.size+1+1) 0 #[.string wn.copy,.int .i64 wn.version,.string wn.hold,.int .i64 wn.pull,.int .i64 wn.start,.int .i64 wn.dies,.int .i64 wn.grace,.int .i64 1,.int .i64 (wrap64 (l - 1)),.int .i64 f,.int .i64 u] rfl rfl HTZ Ag (by simp [Value.oneCell']) w5 HW5 ?_));exact bodyPost_ret (Ad rfl _ _ (w.heap.size+1+1) [.string wn.copy,.int .i64 wn.version,.string wn.hold,.int .i64 wn.pull,.int .i64 wn.start,.int .i64 wn.dies,.int .i64 wn.grace,.int .i64 1,.int .i64 (wrap64 (l - 1)),.int .i64 f,.int .i64 u] _ rfl HR5 Tryz.underlying88 rfl Ag) rfl ⟨(⟨wn,1,wrap64 (l - 1),f,u⟩:Rn),true,HEQ,rfl,hB5⟩
   have hl':l≤1:=by omega
   have HEQ:Hid ((bgR (⟨wn,1,l,f,u⟩:Rn) c,true)=Bd (⟨wn,1,l,f,u⟩:Rn) (!(true && eqW y wn)) c):=by
    show _=_
    rw [HE.out];simp [Bd,hl]
   clear hl;go_wp2_with (first | (refine qLk Bi HX ?_));refine (Hm (⟨wn,1,l,f,u⟩:Rn) c _).mono ?_;rintro e w1 ⟨rfl,hb1⟩;have HX1:=qBk HX hb1;have HZ1:=qBk HZ hb1;have hB1:=qTr hB0 hb1;have hzl:w.heap.size+1+1<w1.heap.size:=HZ1.out.lt;generalize bgR (⟨wn,1,l,f,u⟩:Rn) c=G at *;obtain ⟨w2,HW2⟩:∃ w2,Hid (w2=w1.setCells w.heap.size 0 (rrL G)):=⟨_,rfl⟩;have HX2:Hid (Blk w.heap.size (rrA G) 88 w2):=by
    show Blk _ _ _ _
    rw [HW2.out];exact HX1.out.setAll (rrA G) rfl
   have hB2:Below w.heap.size w w2:=by
    rw [HW2.out];exact Aa nL _ _ _ hB1
   have HZ2:Hid (Blk (w.heap.size+1+1) RrA 88 w2):=by
    show Blk _ _ _ _
    rw [HW2.out];exact Ar (by omega) _ _ _ HZ1
   have HTX:=iH HX1.out.there;clear hb1 hB0 hB1 HX HZ HX1 HZ1 k7 k8 f7 f8;obtain ⟨w5,HW5⟩:∃ w5,Hid (w5=w2.setCells (w.heap.size+1+1) 0 (rrL G)):=⟨_,rfl⟩;have HR5:Hid (w5.rangeAt (w.heap.size+1+1) 0 (rrL G)):=by
    show World.rangeAt _ _ _ _
    rw [HW5.out];exact World.rangeAt_setCells_same _ _ _ _ HZ2.out.there
   have hB5:Below w.heap.size w w5:=by
    rw [HW5.out];exact Aa (by omega) _ _ _ hB2
   have HTZ:=iH HZ2.out.there;go_wp2_with (first | (refine Ab rfl 88 _ _ rfl w.heap.size 0 (rrA G) rfl rfl HTX Ag (by simp [Value.oneCell']) w2 HW2 ?_) | (refine qLk Bi HX2 ?_) | (refine Ab rfl 88 _ _ rfl (w.heap.size+1+1) 0 (rrA G) rfl rfl HTZ Ag (by simp [Value.oneCell']) w5 HW5 ?_));exact bodyPost_ret (Ad rfl _ _ (w.heap.size+1+1) (rrL G) _ rfl HR5 Tryz.underlying88 rfl Ag) rfl ⟨G,true,HEQ,rfl,hB5⟩
end Go.Proofs.YtkiloaiffopllaaGreat
