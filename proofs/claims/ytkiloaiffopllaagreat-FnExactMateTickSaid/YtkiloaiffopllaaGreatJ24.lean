import Derived.Test.YtkiloaiffopllaaGreatJ23
import Derived.Test.YtkiloaiffopllaaGreatJ12
import Derived.Laws.StructEq
set_option maxHeartbeats 4000000
namespace Go.Proofs.YtkiloaiffopllaaGreat
set_option maxRecDepth 100000
open Go.RowKit
theorem Md (s:BA) (w:World) (hs:s.size≤1048576) :
  Calls Tryz.prog 67 #[.string s] w (Rt (.string s) w):=by
 go_enter Tryz.func67,Tryz.ntmps67;go_wp2_with fail;refine (Any.stringslite_Clone bO s w (by omega)).mono ?_;rintro e w1 ⟨rfl,hb⟩;go_wp2_with fail;go_ret;exact ⟨rfl,hb⟩
theorem Rl (x:Wnt) (w:World) (z0:x.copy.size≤1048576) (z2:x.hold.size≤1048576) :
  Calls Tryz.prog 69 #[.agg (wwA x)] w (Rt (.agg (wwA x)) w):=by
 have HX0:=Blk.alloc w (wwA x) 86;have HZ:=al2 w (wwA x) 86 WwA 86;have hB3:=bl2 w (wwA x) 86 WwA 86;have HX:=iH (HX0.below ((Below.refl _ _).alloc nL (Obj.cells WwA 86)) HX0.lt);clear HX0;go_enter Tryz.func69,Tryz.ntmps69;go_upto_region 1 with fail;generalize (w.alloc (Obj.cells (wwA x) 86)).alloc (Obj.cells WwA 86)=w3 at *;refine wp_region_held_drew (S:=fun wy=>Blk w.heap.size (wwA x) 86 wy∧Blk (w.heap.size+1) WwA 86 wy) (by kernel_rfl) ⟨HX.out.drew,HZ.out.drew⟩ (fun hS=>?_);refine tz 0 3 (.pointer (some ⟨w.heap.size,0,none⟩)) rfl hS ?_;simp only [pX];refine ty 1 ⟨some 4,_,_,_,_,none⟩ (.string x.copy) rfl (by rfl) ?_ hS ?_
 ·intro wy hy
  have h0:=hy.1.cell (o:=0) (v:=.string x.copy) rfl;clear hy;go_simp
 simp only [pX];refine tz 3 6 (.pointer (some ⟨w.heap.size,2,none⟩)) rfl hS ?_;simp only [pX];refine ty 4 ⟨some 7,_,_,_,_,none⟩ (.string x.hold) rfl (by rfl) ?_ hS ?_
 ·intro wy hy
  have h0:=hy.1.cell (o:=2) (v:=.string x.hold) rfl;clear hy;go_simp
 simp only [pX];refine rd1 2 ⟨some 5,_,_,_,_,none⟩ rfl (fun K hK=>?_);go_simp;refine (Md x.copy _ z0).mono ?_;rintro e w4 ⟨rfl,hb4⟩;have hB4:=hB3.trans ((((Below.refl w3.heap.size w3).drew).trans hb4).mono hB3.size);refine hK.out _ _ ⟨hS.1.below hb4 hS.1.lt,hS.2.below hb4 hS.2.lt⟩ (fun hS=>?_);clear hK K;clear hb4;refine tz 6 9 (.pointer (some ⟨w.heap.size,0,none⟩)) rfl hS ?_;simp only [pX];refine rd1 5 ⟨some 8,_,_,_,_,none⟩ rfl (fun K hK=>?_);go_simp;refine (Md x.hold _ z2).mono ?_;rintro e w5 ⟨rfl,hb5⟩;have hB5:=qTr hB4 hb5;refine hK.out _ _ ⟨hS.1.below hb5 hS.1.lt,hS.2.below hb5 hS.2.lt⟩ (fun hS=>?_);clear hK K;clear hb5;have kk:w5.cell? ⟨w.heap.size,0,none⟩=some (.string x.copy):=hS.1.cell rfl;have ff:w5.frozen? ⟨w.heap.size,0,none⟩=false:=hS.1.frozen _;refine rd1 7 ⟨none,_,_,_,_,none⟩ rfl (fun K hK=>?_);go_simp;have hX6:Blk w.heap.size (wwA x) 86 (w5.setCell ⟨w.heap.size,0,none⟩ (.string x.copy)):=hS.1.set 0 _;have hZ6:Blk (w.heap.size+1) WwA 86 (w5.setCell ⟨w.heap.size,0,none⟩ (.string x.copy)):=hS.2.other (by simp) _;have hB6:Below w.heap.size w (w5.setCell ⟨w.heap.size,0,none⟩ (.string x.copy)):=hB5.setCell (p:=⟨w.heap.size,0,none⟩) nL _;refine hK.out _ _ ⟨hX6,hZ6⟩ (fun hS=>?_);clear hK K kk ff hX6 hZ6;generalize w5.setCell ⟨w.heap.size,0,none⟩ (.string x.copy)=w6 at *;refine tz 8 10 (.pointer (some ⟨w.heap.size,2,none⟩)) rfl hS ?_;simp only [pX];have kk:w6.cell? ⟨w.heap.size,2,none⟩=some (.string x.hold):=hS.1.cell rfl;have ff:w6.frozen? ⟨w.heap.size,2,none⟩=false:=hS.1.frozen _;refine rd1 9 ⟨none,_,_,_,_,none⟩ rfl (fun K hK=>?_);go_simp;have hX7:Blk w.heap.size (wwA x) 86 (w6.setCell ⟨w.heap.size,2,none⟩ (.string x.hold)):=hS.1.set 2 _;have hZ7:Blk (w.heap.size+1) WwA 86 (w6.setCell ⟨w.heap.size,2,none⟩ (.string x.hold)):=hS.2.other (by simp) _;have hB7:Below w.heap.size w (w6.setCell ⟨w.heap.size,2,none⟩ (.string x.hold)):=hB6.setCell (p:=⟨w.heap.size,2,none⟩) nL _;refine hK.out _ _ ⟨hX7,hZ7⟩ (fun hS=>?_);clear hK K kk ff hX7 hZ7;generalize w6.setCell ⟨w.heap.size,2,none⟩ (.string x.hold)=w7 at *;have HX7:=iH hS.1;have HZ7:=iH hS.2;refine td ?_;clear hS;obtain ⟨w8,HW8⟩:∃ w8,Hid (w8=w7.setCells (w.heap.size+1) 0 (wwL x)):=⟨_,rfl⟩;have HR8:Hid (w8.rangeAt (w.heap.size+1) 0 (wwL x)):=by
  show World.rangeAt _ _ _ _
  rw [HW8.out];exact World.rangeAt_setCells_same _ _ _ _ HZ7.out.there
 have hB8:Below w.heap.size w w8:=by
  rw [HW8.out];exact Aa (by omega) _ _ _ hB7
 have HTS:=iH HZ7.out.there;clear hB3 hB4 hB5 hB6 hB7 HX HZ;go_wp2_with (first | (refine qLk Gr HX7 ?_) | (refine Ab rfl 86 _ _ rfl (w.heap.size+1) 0 (wwA x) rfl rfl HTS Au (by simp [Value.oneCell']) w8 HW8 ?_));exact bodyPost_ret (Ai rfl _ _ (w.heap.size+1) (wwL x) _ rfl HR8 Tryz.underlying86 rfl Au) rfl ⟨rfl,hB8⟩
theorem Fm {w w':World} {b o n B:Nat} (h:w.there b o n) (hb:Below B w w') (hB:b<B):w'.there b o n:=fun j hj=>by
 rw [hb.cell (p:=⟨b,o+j,none⟩) hB,hb.frozen (p:=⟨b,o+j,none⟩) hB];exact h j hj
theorem cJ {w:World} {b:Nat} {x:Rn} (h:w.rangeAt b 0 (rrL x)):w.rangeAt b 0 (wwL x.want):=fun j v hj=>by
 have hl:j<7:=Ah hj;refine h j v ?_;show ((wwL x.want)++[.int .i64 x.state,.int .i64 x.left,.int .i64 x.falls,.int .i64 x.until_])[j]?=some v
 rw [List.getElem?_append_left (by simpa using hl)];exact hj
theorem Mh (x:Rn) (w:World) (z0:x.want.copy.size≤1048576) (z2:x.want.hold.size≤1048576) :
  Calls Tryz.prog 78 #[.agg (rrA x)] w (Rt (.agg (rrA x)) w):=by
 have HX0:=Blk.alloc w (rrA x) 111;have HZ:=al2 w (rrA x) 111 RrA 88;have hB3:=bl2 w (rrA x) 111 RrA 88;have HX:=iH (HX0.below ((Below.refl _ _).alloc nL (Obj.cells RrA 88)) HX0.lt);clear HX0;go_enter Tryz.func78,Tryz.ntmps78;go_upto_region 1 with fail;generalize (w.alloc (Obj.cells (rrA x) 111)).alloc (Obj.cells RrA 88)=w3 at *;refine wp_region_held_drew (S:=fun wy=>Blk w.heap.size (rrA x) 111 wy∧wy.there (w.heap.size+1) 0 11) (by kernel_rfl) ⟨HX.out.drew,HZ.out.drew.there⟩ (fun hS=>?_);refine tz 0 3 (.pointer (some ⟨w.heap.size,0,none⟩)) rfl hS ?_;simp only [pX];refine tk 1 ⟨some 4,_,_,_,_,none⟩ (.agg (wwA x.want)) rfl (yieldsIf_load_mid (by rfl) _ _ rfl w.heap.size (0) rfl (wwL x.want) _ (fun _ h=>cJ h.1.rangeA) Tryz.underlying86 rfl Au) hS ?_;simp only [pX];refine tz 3 6 (.pointer (some ⟨w.heap.size,7,none⟩)) rfl hS ?_;simp only [pX];refine ty 4 ⟨some 7,_,_,_,_,none⟩ (.int .i64 x.state) rfl (by rfl) ?_ hS ?_
 ·intro wy hy
  have h0:=hy.1.cell (o:=7) (v:=.int .i64 x.state) rfl;clear hy;go_simp
 simp only [pX];refine tz 5 8 (.pointer (some ⟨w.heap.size,8,none⟩)) rfl hS ?_;simp only [pX];refine ty 6 ⟨some 9,_,_,_,_,none⟩ (.int .i64 x.left) rfl (by rfl) ?_ hS ?_
 ·intro wy hy
  have h0:=hy.1.cell (o:=8) (v:=.int .i64 x.left) rfl;clear hy;go_simp
 simp only [pX];refine tz 7 10 (.pointer (some ⟨w.heap.size,9,none⟩)) rfl hS ?_;simp only [pX];refine ty 8 ⟨some 11,_,_,_,_,none⟩ (.int .i64 x.falls) rfl (by rfl) ?_ hS ?_
 ·intro wy hy
  have h0:=hy.1.cell (o:=9) (v:=.int .i64 x.falls) rfl;clear hy;go_simp
 simp only [pX];refine tz 9 12 (.pointer (some ⟨w.heap.size,10,none⟩)) rfl hS ?_;simp only [pX];refine ty 10 ⟨some 13,_,_,_,_,none⟩ (.int .i64 x.until_) rfl (by rfl) ?_ hS ?_
 ·intro wy hy
  have h0:=hy.1.cell (o:=10) (v:=.int .i64 x.until_) rfl;clear hy;go_simp
 simp only [pX];refine rd1 2 ⟨some 5,_,_,_,_,none⟩ rfl (fun K hK=>?_);go_simp;refine (Rl x.want _ z0 z2).mono ?_;rintro e w4 ⟨rfl,hb4⟩;have hB4:=hB3.trans ((((Below.refl w3.heap.size w3).drew).trans hb4).mono hB3.size);refine hK.out _ _ ⟨hS.1.below hb4 hS.1.lt,Fm hS.2 hb4 (by show _<_;exact HZ.out.drew.lt)⟩ (fun hS=>?_);clear hK K;clear hb4;refine tz 11 14 (.agg (rrA x)) rfl hS ?_;simp only [pX];refine rd1 12 ⟨none,_,_,_,_,none⟩ rfl (fun K hK=>?_);rw [if_pos (by rfl)];refine wp_store_mid 88 (.tmp 2) (.tmp 14) (by rfl) (w.heap.size+1) 0 (rrA x) (by rfl) (by rfl) hS.2 Ag (by simp [Value.oneCell']) ?_;have HB5:Hid (Below w.heap.size w (w4.setCells (w.heap.size+1) 0 (rrL x))):=Aa (by omega) _ _ _ hB4;have HR5:Hid ((w4.setCells (w.heap.size+1) 0 (rrL x)).rangeAt (w.heap.size+1) 0 (rrL x)):=World.rangeAt_setCells_same w4 (w.heap.size+1) 0 _ hS.2;have hbs:Below (w.heap.size+1) w4 (w4.setCells (w.heap.size+1) 0 (rrL x)):=Aa nL _ _ _ (Below.refl _ _);refine hK.out _ _ ⟨hS.1.below hbs (by omega),World.there_setCells hS.2 _ _ _⟩ (fun hS=>?_);clear hK K hbs hS;generalize w4.setCells (w.heap.size+1) 0 (rrL x)=w5 at *;refine td ?_;clear hB3 hB4;go_wp2_with fail;exact bodyPost_ret (Ai rfl _ _ (w.heap.size+1) (rrL x) _ rfl HR5 Tryz.underlying88 rfl Ag) rfl ⟨rfl,HB5⟩
def eqW (a b:Wnt):Bool:=(a.copy.toList == b.copy.toList) && (a.version == b.version) && (a.hold.toList == b.hold.toList) && (a.pull == b.pull) && (a.start == b.start) && (a.dies == b.dies) && (a.grace == b.grace)
theorem Fr:Tryz.prog.eqGuardType Tryz.prog.depth 86=false:=by kernel_rfl
theorem bF:Tryz.prog.underlying 86=some (.struct (Tryz.prog.fieldsOf 86)):=by kernel_rfl
theorem cK:Tryz.prog.stoodInHeld 86=false:=by kernel_rfl
theorem Fu (a b:Wnt) (w:World):(Op.equalIn 10000 86 (.agg (wwA a)) (.agg (wwA b))).run Tryz.prog w=.ok (eqW a b) w:=by
 rw [show (10000:Nat)=9999+1 from rfl,run_equalIn_struct w 9999 _ _ _ bF cK];unfold eqW;cases h0:(a.copy.toList == b.copy.toList)
 ·simp [go_sem,Program.fieldsOf,Tryz.underlying86,Tryz.underlying3,Tryz.underlying9,h0]
 ·skip
  cases h1:(a.version == b.version)
  ·simp [go_sem,Program.fieldsOf,Tryz.underlying86,Tryz.underlying3,Tryz.underlying9,h0,h1]
  ·skip
   cases h2:(a.hold.toList == b.hold.toList)
   ·simp [go_sem,Program.fieldsOf,Tryz.underlying86,Tryz.underlying3,Tryz.underlying9,h0,h1,h2]
   ·skip
    cases h3:(a.pull == b.pull)
    ·simp [go_sem,Program.fieldsOf,Tryz.underlying86,Tryz.underlying3,Tryz.underlying9,h0,h1,h2,h3]
    ·skip
     cases h4:(a.start == b.start)
     ·simp [go_sem,Program.fieldsOf,Tryz.underlying86,Tryz.underlying3,Tryz.underlying9,h0,h1,h2,h3,h4]
     ·skip
      cases h5:(a.dies == b.dies)
      ·simp [go_sem,Program.fieldsOf,Tryz.underlying86,Tryz.underlying3,Tryz.underlying9,h0,h1,h2,h3,h4,h5]
      ·skip
       cases h6:(a.grace == b.grace)
       ·simp [go_sem,Program.fieldsOf,Tryz.underlying86,Tryz.underlying3,Tryz.underlying9,h0,h1,h2,h3,h4,h5,h6]
       ·skip
        simp [go_sem,Program.fieldsOf,Tryz.underlying86,Tryz.underlying3,Tryz.underlying9,h0,h1,h2,h3,h4,h5,h6]
theorem Ad {P:Program} {fn:Func} {p t:Tmp} {ty:TypeId} (h:fn.results=#[.cell p ty,.tmp t]) (tmps:Array Value) (w:World) (g:Nat) (cs:List Value) (d:TypeDesc)
  (hp:tmps.getD p undef=.pointer (some ⟨g,0,none⟩)) (hc:w.rangeAt g 0 cs) (hu:P.underlying ty=some d) (hd:d.isRow=true) (hi:(P.info? ty).map (·.size)=some cs.length) :
  (results fn tmps).run P w=.ok (.tuple #[.agg cs.toArray,tmps.getD t undef]) w:=by
 have hp':tmps[p]?.getD undef=.pointer (some ⟨g,0,none⟩):=by simpa using hp
 simp [results,h,hp',asAddr,run_loadVar_mid w g 0 ty cs d hc hu hd hi]
def Ec:Rn:=⟨⟨⟨#[]⟩,0,⟨#[]⟩,0,0,0,0⟩,0,0,0,0⟩
def lvA (r:Rn×Bool):Rn×Bool:=if r.2=true then (Ec,false) else (r.1,true)
theorem Fz (x:Rn):(ctR x).want=x.want:=by unfold ctR;split <;> rfl
theorem Se (x:Rn) (c:Int):(bgR x c).want=x.want:=by unfold bgR;split <;> rfl
theorem Xu (x:Rn):(Xc x).want=x.want:=by unfold Xc;split <;> rfl
theorem Zg (x:Rn):(unR x).want=x.want:=by
 unfold unR
 split
 ·rfl
 ·split <;> rfl
theorem Zw {f:Nat} (hf:Cs f) (x:Rn) (c:Int) (g:Bool):(stp f x c g).2.1.want=x.want:=by
 rcases hf with rfl | rfl | rfl | rfl | rfl | rfl | rfl | rfl | rfl | rfl | rfl
 ·exact Fz x
 ·exact Fz x
 ·exact Fz x
 ·exact Fz x
 ·exact Fz x
 ·exact Fz x
 ·exact Se x c
 ·rfl
 ·exact Xu x
 ·rfl
 ·exact Zg x
theorem Ol (c:Int):∀ (n:Nat) (st:Option Nat) (x:Rn) (g:Bool),(∀ f,st=some f→Cs f)→(Ep c n st x g).1.want=x.want
 | n,none,x,g,_=>by cases n <;> rfl
 | 0,some f,x,g,_=>rfl
 | n+1,some f,x,g,hf=>by
  have h:=Ol c n (stp f x c g).1 (stp f x c g).2.1 (stp f x c g).2.2 (Ql (hf f rfl) x c g).2;exact h.trans (Zw (hf f rfl) x c g)
theorem aK (x:Rn) (wanted:Bool):Cs (Jd x wanted):=by
 unfold Jd
 split
 ·exact Zk _
 ·unfold Cs;decide
theorem Sv:(Tryz.prog.info? 152).map (·.size)=some 13:=by kernel_rfl
theorem dN:Nv 152 13:=⟨_,Tryz.underlying152,rfl,Sv⟩
theorem Jt (x:Rn) (y:Wnt) (wanted:Bool) (c:Int) (w:World) (z0:x.want.copy.size≤1048576) (z2:x.want.hold.size≤1048576) :
  Calls Tryz.prog 115 #[.agg (rrA x),.agg (wwA y),.bool wanted,.int .i64 c] w fun e w'=>∃ F:Rn,∃ k:Bool,(F,k)=lvA (Ep c 3 (some (Jd x (wanted && eqW y x.want))) x false)∧e=.returned (.tuple #[.agg (rrA F),.bool k])∧Below w.heap.size w w':=by
 have HX0:=Blk.alloc w (rrA x) 88;have HY0:Blk (w.heap.size+1) (wwA y) 86 ((w.alloc (.cells (rrA x) 88)).alloc (.cells (wwA y) 86)):=by
  have:=Blk.alloc (w.alloc (.cells (rrA x) 88)) (wwA y) 86;simpa using this
 have hba:=(Below.refl _ (w.alloc (.cells (rrA x) 88))).alloc nL (Obj.cells (wwA y) 86);have hbb:=(Below.refl _ ((w.alloc (.cells (rrA x) 88)).alloc (.cells (wwA y) 86))).alloc nL (Obj.cells RrA 88);have HZ:Hid (Blk (w.heap.size+1+1) RrA 88 (((w.alloc (.cells (rrA x) 88)).alloc (.cells (wwA y) 86)).alloc (.cells RrA 88))):=by
  show Blk _ _ _ _
  have:=Blk.alloc ((w.alloc (.cells (rrA x) 88)).alloc (.cells (wwA y) 86)) RrA 88;simpa using this
 have HX:Hid (Blk w.heap.size (rrA x) 88 (((w.alloc (.cells (rrA x) 88)).alloc (.cells (wwA y) 86)).alloc (.cells RrA 88))):=(HX0.below hba HX0.lt).below hbb (HX0.below hba HX0.lt).lt;have HY:Hid (Blk (w.heap.size+1) (wwA y) 86 (((w.alloc (.cells (rrA x) 88)).alloc (.cells (wwA y) 86)).alloc (.cells RrA 88))):=HY0.below hbb HY0.lt;have hB0:Below w.heap.size w (((w.alloc (.cells (rrA x) 88)).alloc (.cells (wwA y) 86)).alloc (.cells RrA 88)):=by go_grown
 clear HX0 HY0 hba hbb;go_enter Tryz.func115,Tryz.ntmps115;go_upto_region 1 with fail;generalize ((w.alloc (Obj.cells (rrA x) 88)).alloc (Obj.cells (wwA y) 86)).alloc (Obj.cells RrA 88)=w0 at *;go_wp2_with (first | (refine qLk Bi HX ?_));refine (Hu x _).mono ?_;rintro e w1 ⟨rfl,hb1⟩;have HX1:=qBk HX hb1;have HY1:=qBk HY hb1;have HZ1:=qBk HZ hb1;have hB1:=qTr hB0 hb1;clear hb1 hB0 HX HY HZ;have hza:=Blk.alloc w1 #[.string ⟨#[]⟩,.int .i64 0,.string ⟨#[]⟩,.int .i64 0,.int .i64 0,.int .i64 0,.int .i64 0,.int .i64 0,.int .i64 0,.int .i64 0,.int .i64 0,.int .i64 0,.bool false] 152;have HTS:Hid ((w1.alloc (Obj.cells #[.string ⟨#[]⟩,.int .i64 0,.string ⟨#[]⟩,.int .i64 0,.int .i64 0,.int .i64 0,.int .i64 0,.int .i64 0,.int .i64 0,.int .i64 0,.int .i64 0,.int .i64 0,.bool false] 152)).there w1.heap.size 0 13):=hza.there;obtain ⟨w3,HW3⟩:∃ w3,Hid (w3=(w1.alloc (Obj.cells #[.string ⟨#[]⟩,.int .i64 0,.string ⟨#[]⟩,.int .i64 0,.int .i64 0,.int .i64 0,.int .i64 0,.int .i64 0,.int .i64 0,.int .i64 0,.int .i64 0,.int .i64 0,.bool false] 152)).setCells w1.heap.size 0 [.string x.want.copy,.int .i64 x.want.version,.string x.want.hold,.int .i64 x.want.pull,.int .i64 x.want.start,.int .i64 x.want.dies,.int .i64 x.want.grace,.int .i64 x.state,.int .i64 x.left,.int .i64 x.falls,.int .i64 x.until_,.int .i64 c,.bool false]):=⟨_,rfl⟩;have HL3:Hid (Blk w1.heap.size (Bw x c false) 152 w3):=by
  show Blk _ _ _ _
  rw [HW3.out];exact hza.setAll (Bw x c false) rfl
 have hbx:Below w1.heap.size w1 w3:=by
  rw [HW3.out];exact Aa nL _ _ _ ((Below.refl _ w1).alloc nL _)
 have HX3:=qBk HX1 hbx;have HY3:=qBk HY1 hbx;have HZ3:=qBk HZ1 hbx;have hB3:=qTr hB1 hbx;have hzl:w.heap.size+1+1<w1.heap.size:=HZ1.out.lt;clear hza hbx HX1 HY1 HZ1 hB1;go_upto_region 2 with (first | (refine Ab rfl 152 _ _ rfl w1.heap.size 0 #[.string x.want.copy,.int .i64 x.want.version,.string x.want.hold,.int .i64 x.want.pull,.int .i64 x.want.start,.int .i64 x.want.dies,.int .i64 x.want.grace,.int .i64 x.state,.int .i64 x.left,.int .i64 x.falls,.int .i64 x.until_,.int .i64 c,.bool false] rfl rfl HTS Sv (by simp [Value.oneCell']) w3 HW3 ?_));clear HTS HW3;have hq:∀ w,(Op.equalIn 10000 86 (.agg (wwA y)) (.agg (wwA x.want))).run Tryz.prog w=.ok (eqW y x.want) w:=fun w=>Fu y x.want w
 have hgd:=Fr;have HFW:=iH (Ol c 3 (some (Jd x (wanted && eqW y x.want))) x false (fun f hf=>by cases hf;exact aK _ _));have hT:∀ v,v=(wanted && eqW y x.want)→Calls Tryz.prog 129 #[.pointer (some ⟨w1.heap.size,0,none⟩),.bool v] w3 fun e w'=>e=.returned (.tuple #[])∧Blk w1.heap.size (Bw (Ep c 3 (some (Jd x (wanted && eqW y x.want))) x false).1 c (Ep c 3 (some (Jd x (wanted && eqW y x.want))) x false).2) 152 w'∧Below w1.heap.size w3 w':=fun v hv=>by
  subst hv;exact Ys x c false w1.heap.size _ w3 HL3
 have HT:=iH hT;clear hT;obtain ⟨FIN,hfin⟩:∃ r,r=Ep c 3 (some (Jd x (wanted && eqW y x.want))) x false:=⟨_,rfl⟩;rw [← hfin] at HFW HT;have HFIN:=iH hfin;clear hfin;have k0:w3.cell? ⟨w.heap.size,0,none⟩=some (.string x.want.copy):=HX3.out.cell rfl;have k1:w3.cell? ⟨w.heap.size,1,none⟩=some (.int .i64 x.want.version):=HX3.out.cell rfl;have k2:w3.cell? ⟨w.heap.size,2,none⟩=some (.string x.want.hold):=HX3.out.cell rfl;have k3:w3.cell? ⟨w.heap.size,3,none⟩=some (.int .i64 x.want.pull):=HX3.out.cell rfl;have k4:w3.cell? ⟨w.heap.size,4,none⟩=some (.int .i64 x.want.start):=HX3.out.cell rfl;have k5:w3.cell? ⟨w.heap.size,5,none⟩=some (.int .i64 x.want.dies):=HX3.out.cell rfl;have k6:w3.cell? ⟨w.heap.size,6,none⟩=some (.int .i64 x.want.grace):=HX3.out.cell rfl;have l0:w3.cell? ⟨w.heap.size+1,0,none⟩=some (.string y.copy):=HY3.out.cell rfl;have l1:w3.cell? ⟨w.heap.size+1,1,none⟩=some (.int .i64 y.version):=HY3.out.cell rfl;have l2:w3.cell? ⟨w.heap.size+1,2,none⟩=some (.string y.hold):=HY3.out.cell rfl;have l3:w3.cell? ⟨w.heap.size+1,3,none⟩=some (.int .i64 y.pull):=HY3.out.cell rfl;have l4:w3.cell? ⟨w.heap.size+1,4,none⟩=some (.int .i64 y.start):=HY3.out.cell rfl;have l5:w3.cell? ⟨w.heap.size+1,5,none⟩=some (.int .i64 y.dies):=HY3.out.cell rfl;have l6:w3.cell? ⟨w.heap.size+1,6,none⟩=some (.int .i64 y.grace):=HY3.out.cell rfl
 cases wanted with
 | false =>
  go_wp2_with fail;refine (HT _ rfl).mono ?_;rintro e w4 ⟨rfl,hL4,hb4⟩;have HL4:=iH hL4;have HZ4:=iH (HZ3.out.below hb4 hzl);have hB4:=hB3.trans (hb4.mono (by have:=hB3.size;omega));have m12:w4.cell? ⟨w1.heap.size,12,none⟩=some (.bool FIN.2):=hL4.cell rfl;clear hL4 hb4 HZ3 hB3 HT hq hgd k0 l0 k1 l1 k2 l2 k3 l3 k4 l4 k5 l5 k6 l6;obtain ⟨F,G⟩:=FIN;simp only at m12 HL4 HFW
  cases G with
  | true =>
   obtain ⟨w5,HW5⟩:∃ w5,Hid (w5=w4.setCells (w.heap.size+1+1) 0 RrL):=⟨_,rfl⟩;have HR5:Hid (w5.rangeAt (w.heap.size+1+1) 0 RrL):=by
    show World.rangeAt _ _ _ _
    rw [HW5.out];exact World.rangeAt_setCells_same _ _ _ _ HZ4.out.there
   have hB5:Below w.heap.size w w5:=by
    rw [HW5.out];exact Aa (by omega) _ _ _ hB4
   have HTZ:=iH HZ4.out.there;clear hB4 HZ4;go_wp2_with (first | (refine Ab rfl 88 _ _ rfl (w.heap.size+1+1) 0 RrA rfl rfl HTZ Ag (by simp [Value.oneCell']) w5 HW5 ?_));refine bodyPost_ret (Ad rfl _ _ (w.heap.size+1+1) RrL _ rfl HR5 Tryz.underlying88 rfl Ag) rfl ⟨Ec,false,by rw [← HFIN.out];rfl,rfl,hB5⟩
  | false =>
   have HS0:Hid (F.want.copy.size≤1048576):=by show _≤_;rw [HFW.out];exact z0
   have HS2:Hid (F.want.hold.size≤1048576):=by show _≤_;rw [HFW.out];exact z2
   go_wp2_with (first | (refine wpList_load_mid rfl 111 _ rfl w1.heap.size 0 rfl (rrL F) _ HL4.out.sub11 Tryz.underlying111 rfl Ci ?_));refine (Mh F _ HS0 HS2).mono ?_;rintro e w6 ⟨rfl,hb6⟩;have HZ6:=qBk HZ4 hb6;have hB6:=qTr hB4 hb6;clear hb6 hB4 HZ4 m12 HL4;obtain ⟨w5,HW5⟩:∃ w5,Hid (w5=w6.setCells (w.heap.size+1+1) 0 (rrL F)):=⟨_,rfl⟩;have HR5:Hid (w5.rangeAt (w.heap.size+1+1) 0 (rrL F)):=by
    show World.rangeAt _ _ _ _
    rw [HW5.out];exact World.rangeAt_setCells_same _ _ _ _ HZ6.out.there
   have hB5:Below w.heap.size w w5:=by
    rw [HW5.out];exact Aa (by omega) _ _ _ hB6
   have HTZ:=iH HZ6.out.there;clear hB6 HZ6;go_wp2_with (first | (refine Ab rfl 88 _ _ rfl (w.heap.size+1+1) 0 (rrA F) rfl rfl HTZ Ag (by simp [Value.oneCell']) w5 HW5 ?_));refine bodyPost_ret (Ad rfl _ _ (w.heap.size+1+1) (rrL F) _ rfl HR5 Tryz.underlying88 rfl Ag) rfl ⟨F,true,by rw [← HFIN.out];rfl,rfl,hB5⟩
 | true =>
  go_wp2_with fail;refine (HT _ (by simp)).mono ?_;rintro e w4 ⟨rfl,hL4,hb4⟩;have HL4:=iH hL4;have HZ4:=iH (HZ3.out.below hb4 hzl);have hB4:=hB3.trans (hb4.mono (by have:=hB3.size;omega));have m12:w4.cell? ⟨w1.heap.size,12,none⟩=some (.bool FIN.2):=hL4.cell rfl;clear hL4 hb4 HZ3 hB3 HT hq hgd k0 l0 k1 l1 k2 l2 k3 l3 k4 l4 k5 l5 k6 l6;obtain ⟨F,G⟩:=FIN;simp only at m12 HL4 HFW
  cases G with
  | true =>
   obtain ⟨w5,HW5⟩:∃ w5,Hid (w5=w4.setCells (w.heap.size+1+1) 0 RrL):=⟨_,rfl⟩;have HR5:Hid (w5.rangeAt (w.heap.size+1+1) 0 RrL):=by
    show World.rangeAt _ _ _ _
    rw [HW5.out];exact World.rangeAt_setCells_same _ _ _ _ HZ4.out.there
   have hB5:Below w.heap.size w w5:=by
    rw [HW5.out];exact Aa (by omega) _ _ _ hB4
   have HTZ:=iH HZ4.out.there;clear hB4 HZ4;go_wp2_with (first | (refine Ab rfl 88 _ _ rfl (w.heap.size+1+1) 0 RrA rfl rfl HTZ Ag (by simp [Value.oneCell']) w5 HW5 ?_));refine bodyPost_ret (Ad rfl _ _ (w.heap.size+1+1) RrL _ rfl HR5 Tryz.underlying88 rfl Ag) rfl ⟨Ec,false,by rw [← HFIN.out];rfl,rfl,hB5⟩
  | false =>
   have HS0:Hid (F.want.copy.size≤1048576):=by show _≤_;rw [HFW.out];exact z0
   have HS2:Hid (F.want.hold.size≤1048576):=by show _≤_;rw [HFW.out];exact z2
   go_wp2_with (first | (refine wpList_load_mid rfl 111 _ rfl w1.heap.size 0 rfl (rrL F) _ HL4.out.sub11 Tryz.underlying111 rfl Ci ?_));refine (Mh F _ HS0 HS2).mono ?_;rintro e w6 ⟨rfl,hb6⟩;have HZ6:=qBk HZ4 hb6;have hB6:=qTr hB4 hb6;clear hb6 hB4 HZ4 m12 HL4;obtain ⟨w5,HW5⟩:∃ w5,Hid (w5=w6.setCells (w.heap.size+1+1) 0 (rrL F)):=⟨_,rfl⟩;have HR5:Hid (w5.rangeAt (w.heap.size+1+1) 0 (rrL F)):=by
    show World.rangeAt _ _ _ _
    rw [HW5.out];exact World.rangeAt_setCells_same _ _ _ _ HZ6.out.there
   have hB5:Below w.heap.size w w5:=by
    rw [HW5.out];exact Aa (by omega) _ _ _ hB6
   have HTZ:=iH HZ6.out.there;clear hB6 HZ6;go_wp2_with (first | (refine Ab rfl 88 _ _ rfl (w.heap.size+1+1) 0 (rrA F) rfl rfl HTZ Ag (by simp [Value.oneCell']) w5 HW5 ?_));refine bodyPost_ret (Ad rfl _ _ (w.heap.size+1+1) (rrL F) _ rfl HR5 Tryz.underlying88 rfl Ag) rfl ⟨F,true,by rw [← HFIN.out];rfl,rfl,hB5⟩
end Go.Proofs.YtkiloaiffopllaaGreat
