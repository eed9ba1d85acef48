import Derived.Test.YtpeajnkkdioflaaGreatJ38
set_option maxHeartbeats 8000000
set_option maxRecDepth 100000
namespace Go.Proofs.YtpeajnkkdioflaaGreat
open Go.RowKit Go.WideMaps Go.Maps
theorem Gt {P:Program} {ops:Array Oper} {Q:Exit→Act→World→Prop} {md:Region.Mode} {S:World→Prop} {s i:Nat} {oi:Oper} {v:Value} {n:Nat} {l:Array Bool} {a:Act} {w:World} (hi:ops[i]?=some oi) (hr:Region.ready md ops l=[i]) (hy:YieldsIf P ops S oi v a) (hS:S w)
  (h:wpAnyU P md ops Q s S n (l.setIfInBounds i true) (a.put oi.dst v) w):wpAnyU P md ops Q s S (n+1) l a w :=
 ⟨fun h0=>(by rw [hr] at h0;cases h0),(by rw [hr];intro j hj;rw [List.mem_singleton.1 hj];exact hy.wpOp hi hS ⟨fun _=>hS,h⟩)⟩
theorem Sv.wide {l l':List Nat} {w w':World} (h:Sv l w w') (hl:∀ b,b∈l→b∈l'):Sv l' w w':=⟨h.1,fun b h1 h2=>h.2 b h1 (fun h3=>h2 (hl b h3))⟩
def E3 (x:Flt) (b:Brt) (y:Cpy) (G:Lg) (kb c i:Nat):Nat→World→Prop
 | 0,w=>Tal w kb (G.T i) (Al (onB b.name) x.copies c)∧Tal w kb (G.Z b.zone) (Al (inZ x b.zone) x.copies c)∧Tal w kb G.mt (Al stP x.copies c)
 | 1,w=>Tal w (kb+1) (G.T i) (Bh (Al (onB b.name) x.copies c) y)∧Tal w kb (G.Z b.zone) (Al (inZ x b.zone) x.copies c)∧Tal w kb G.mt (Al stP x.copies c)
 | 2,w=>Tal w (kb+1) (G.T i) (Bh (Al (onB b.name) x.copies c) y)∧Tal w (kb+1) (G.Z b.zone) (Bh (Al (inZ x b.zone) x.copies c) y)∧Tal w kb G.mt (Al stP x.copies c)
 | _,w=>Tal w (kb+1) (G.T i) (Bh (Al (onB b.name) x.copies c) y)∧Tal w (kb+1) (G.Z b.zone) (Bh (Al (inZ x b.zone) x.copies c) y)∧Tal w (kb+1) G.mt (Bh (Al stP x.copies c) y)
theorem eQ (w:World):(zeroValue 109).run Tryz.prog w=.ok (.pointer none) w:=by kernel_rfl
theorem gP (w:World):(zeroValue 106).run Tryz.prog w=.ok (.map none) w:=by kernel_rfl
theorem aL (x:Flt) (lo:Nat) (W0:World) (G:Lg) (kb c i:Nat) (w:World) (y:Cpy) (b:Brt) (ae:Option Addr) (ce:Nat) (h:LgI x lo W0 G kb x.berths.length c w) (hkb:kb≤1000000) (hv:VOk x) (hy:x.copies[c]?=some y) (hb:x.berths[i]?=some b) (ha:b.name=y.at_) :
  Calls Tryz.prog 57 #[.pointer (some ⟨G.p,0,none⟩),.agg #[.string y.name,.string y.service,.int .i64 y.rank,.int .i64 y.born,.int .i64 y.room,.int .i64 y.hold,.string y.select,.slice ae y.likes.length ce,.int .i64 y.apart,.string y.near,.string y.fixed,.string y.at_]] w fun e w'=>e=.returned (.tuple #[])∧LgI x lo W0 G (kb+1) x.berths.length (c+1) w':=by
 obtain ⟨am,cm,hLn,hsl⟩:=h.LN i b (Ad hb) hb;obtain ⟨nl,fl,hnl,hML,hfl,_⟩:=h.ML;obtain ⟨nz,fz,hnz,hMZ,hfz,_⟩:=h.MZ;have hzm:b.zone∈Ah x.berths x.berths.length:=(Hi _).2 ⟨i,b,Ad hb,hb,rfl⟩;obtain ⟨nT,hnT,hMT⟩:=h.TL i b (Ad hb) hb;obtain ⟨nZ,hnZ,hMZt⟩:=h.TZ b.zone hzm;obtain ⟨nM,hnM,hMM⟩:=h.MT;have hbd:=Ts (s:=b.name) hv.cn c (Nat.le_of_lt (Nat.lt_of_lt_of_le (Ad hy) hv.nc));have hcn:=hv.cn c y hy;have hcs:=hv.cs c y hy;have hbn:=hv.bn i b hb;have hc60:c<60:=Nat.lt_of_lt_of_le (Ad hy) hv.nc;have hsvc:∀ z∈x.copies,z.service.size≤20:=fun z hz=>by obtain ⟨q,hq⟩:=List.getElem?_of_mem hz;exact (hv.cs q z hq).1
 have HSM:Hid (∀ p,∀ z∈Al p x.copies c,Jt 1000 z):=fun p z hz=>by obtain ⟨e0,e1,e2,e3,e4,e5,e6⟩:=Ef hsvc (Nat.le_of_lt hc60) z hz;exact ⟨e0,e1,by omega,e3,by omega,e5,by omega⟩
 have HLE:Hid (fl y.at_=some (.pointer (some ⟨G.L i,0,none⟩))):=by show _=_;rw [← ha];exact hfl i b (Ad hb) hb
 have HZE:=iH (hfz b.zone hzm);have o:=h.ok;have tg:∀ {u v:Nat} {s t:Tg},G.tag u=s→G.tag v=t→s≠t→u≠v:=fun h1 h2 h3 e=>h3 (by rw [← h1,← h2,e])
 have dLT:G.L i≠G.T i:=tg (o.tL i (Ad hb)).1 (o.tT i (Ad hb)).1 (by simp);have dLZ:G.L i≠G.Z b.zone:=tg (o.tL i (Ad hb)).1 (o.tZ _ hzm).1 (by simp);have dLM:G.L i≠G.mt:=tg (o.tL i (Ad hb)).1 o.tmt.1 (by simp);have dTZ:G.T i≠G.Z b.zone:=tg (o.tT i (Ad hb)).1 (o.tZ _ hzm).1 (by simp);have dTM:G.T i≠G.mt:=tg (o.tT i (Ad hb)).1 o.tmt.1 (by simp);have dZM:G.Z b.zone≠G.mt:=tg (o.tZ _ hzm).1 o.tmt.1 (by simp);have dPL:G.p≠G.L i:=tg o.tp.1 (o.tL i (Ad hb)).1 (by simp);have dmL:G.ml≠G.L i:=tg o.tml.1 (o.tL i (Ad hb)).1 (by simp);have dzL:G.mz≠G.L i:=tg o.tmz.1 (o.tL i (Ad hb)).1 (by simp);have oL:=(o.tL i (Ad hb)).2;have oT:=(o.tT i (Ad hb)).2;have oZ:=(o.tZ _ hzm).2;have oM:=o.tmt.2;have hLl:G.L i<w.heap.size:=hLn.lt;have lT:=hMT.lt;have lZ:=hMZt.lt;have lM:=hMM.lt;have HH:=iH h;have HV:=iH hv;have HY:=iH hy;have HBB:=iH hb;have HAA:=iH ha;have HSL:=iH hsl;obtain ⟨⟨U1,U2,U3⟩,hU⟩:∃ U,U=Aq x.copies b.name (-1) c:=⟨_,rfl⟩;rw [← hU] at hLn hbd;have HU:=iH hU;clear hU;have hBw:=h.hB;have HP0:=iH h.P;have HL0:Hid (Blk (G.L i) #[.string b.name,.string b.zone,.slice am b.marks.length cm,.int .i64 b.room,.int .i64 b.hold,.bool b.closed,.int .i64 (b.room - U2),.int .i64 (b.hold - U3),.int .i64 (U1),.slice none 0 0,.map (some (G.T i))] 111 w):=hLn;have HMT0:=iH hMT;have HMZ0:=iH hMZt;have HMM0:=iH hMM;have HML0:=iH hML;have HMZm:=iH hMZ;simp only at hbd;clear h hv hy hb ha hsl o tg hLn hMT hMZt hMM hML hMZ hfl hfz hzm hsvc;have hb1:Below w.heap.size w (w.alloc (Obj.cells #[.string y.name,.string y.service,.int .i64 y.rank,.int .i64 y.born,.int .i64 y.room,.int .i64 y.hold,.string y.select,.slice ae y.likes.length ce,.int .i64 y.apart,.string y.near,.string y.fixed,.string y.at_] 83)):=(Below.refl _ _).alloc nL _;have HC1:=iH (Blk.alloc w #[.string y.name,.string y.service,.int .i64 y.rank,.int .i64 y.born,.int .i64 y.room,.int .i64 y.hold,.string y.select,.slice ae y.likes.length ce,.int .i64 y.apart,.string y.near,.string y.fixed,.string y.at_] 83);go_enter Tryz.func57,Tryz.ntmps57;go_upto_region 1 with fail;generalize (w.alloc (Obj.cells #[.string y.name,.string y.service,.int .i64 y.rank,.int .i64 y.born,.int .i64 y.room,.int .i64 y.hold,.string y.select,.slice ae y.likes.length ce,.int .i64 y.apart,.string y.near,.string y.fixed,.string y.at_] 83))=w1 at *;have hS1:Sv [G.L i] w w1:=(Sv.refl _ _).below hb1;have hBw1:=hBw.trans (hb1.mono hBw.size);have HP1:=iH (HP0.out.below hb1 HP0.out.lt);have HL1:=iH (HL0.out.below hb1 HL0.out.lt);clear hb1;have hSd:=hS1.drew;have hBwd:=hBw1.drew;replace HP1:=iH HP1.out.drew;replace HL1:=iH HL1.out.drew;replace HC1:=iH HC1.out.drew;refine wp_region_held_drew (S:=fun wy=>wy=w1.drew) (by kernel_rfl) rfl (fun hS=>?_);generalize w1.drew=w2 at *;clear hS1 hBw1;have yl:(Instr.lookup 103 (.map (some G.ml)) (.string y.at_) false).run Tryz.prog w2=.ok (.pointer (some ⟨G.L i,0,none⟩)) w2:=by
  have h9:=(HML0.out.heap (w':=w2) (hSd.2 _ HML0.out.lt (by simp;exact dmL))).look Tryz.underlying103 (eQ w2) (s:=y.at_) (by unfold maxLen;omega);rw [HLE.out] at h9;exact h9
 refine tz 0 7 (.pointer (some ⟨G.p,0,none⟩)) rfl hS ?_;simp only [pA,pB,pC,pD];refine tz 1 8 (.pointer (some ⟨G.p,0,none⟩)) rfl hS ?_;simp only [pA,pB,pC,pD];refine tz 2 9 (.pointer (some ⟨G.p,1,none⟩)) rfl hS ?_;simp only [pA,pB,pC,pD];refine tl 3 10 (.map (some G.ml)) ⟨G.p,1,none⟩ rfl (fun wy hy=>((hy▸HP1.out)).cell rfl) hS ?_;simp only [pA,pB,pC,pD];refine tz 4 11 (.pointer (some ⟨w.heap.size,11,none⟩)) rfl hS ?_;simp only [pA,pB,pC,pD];refine tl 5 12 (.string y.at_) ⟨w.heap.size,11,none⟩ rfl (fun wy hy=>((hy▸HC1.out)).cell rfl) hS ?_;simp only [pA,pB,pC,pD];refine ty 6 ⟨some 13,_,_,_,_,none⟩ (.pointer (some ⟨G.L i,0,none⟩)) rfl (by rfl) ?_ hS ?_
 ·intro wy hy
  have h0:=yl;rw [← hy] at h0;clear hy
  first | (go_simp;done) | (simp [go_sem,h0];done) | (go_simp;rw [h0];done) | (go_simp;rw [h0];rfl)
 simp only [pA,pB,pC,pD];refine tz 7 4 (.pointer (some ⟨G.L i,0,none⟩)) rfl hS ?_;simp only [pA,pB,pC,pD];refine td ?_;clear hS yl;go_upto_region 2 with fail;replace hSd:=hSd.drew;replace hBwd:=hBwd.drew;replace HP1:=iH HP1.out.drew;replace HL1:=iH HL1.out.drew;replace HC1:=iH HC1.out.drew;refine Bi (S:=fun wy=>wy=w2.drew) 11 (by kernel_rfl) rfl (fun hS=>?_);generalize w2.drew=w2d at *;refine tv 0 ⟨some 14,_,_,_,_,none⟩ (.pointer (some ⟨G.L i,0,none⟩)) rfl (by rfl) ?_ hS ?_
 ·intro wy hy
  clear hy;go_simp
 simp only [pA,pB,pC,pD];refine tv 1 ⟨some 15,_,_,_,_,none⟩ (.pointer (some ⟨G.L i,0,none⟩)) rfl (by rfl) ?_ hS ?_
 ·intro wy hy
  clear hy;go_simp
 simp only [pA,pB,pC,pD];refine tv 2 ⟨some 16,_,_,_,_,none⟩ (.pointer (some ⟨G.L i,0,none⟩)) rfl (by rfl) ?_ hS ?_
 ·intro wy hy
  clear hy;go_simp
 simp only [pA,pB,pC,pD];refine tv 3 ⟨some 17,_,_,_,_,none⟩ (.pointer (some ⟨G.L i,6,none⟩)) rfl (by rfl) ?_ hS ?_
 ·intro wy hy
  clear hy;go_simp
 simp only [pA,pB,pC,pD];refine tv 4 ⟨some 18,_,_,_,_,none⟩ (.int .i64 (b.room - U2)) rfl (by rfl) ?_ hS ?_
 ·intro wy hy
  have h0:wy.cell? ⟨G.L i,6,none⟩=some (.int .i64 (b.room - U2)):=((hy▸HL1.out)).cell rfl;clear hy;go_simp
 simp only [pA,pB,pC,pD];refine tv 5 ⟨some 19,_,_,_,_,none⟩ (.pointer (some ⟨w.heap.size,4,none⟩)) rfl (by rfl) ?_ hS ?_
 ·intro wy hy
  clear hy;go_simp
 simp only [pA,pB,pC,pD];refine tv 6 ⟨some 20,_,_,_,_,none⟩ (.int .i64 y.room) rfl (by rfl) ?_ hS ?_
 ·intro wy hy
  have h0:wy.cell? ⟨w.heap.size,4,none⟩=some (.int .i64 y.room):=((hy▸HC1.out)).cell rfl;clear hy;go_simp
 simp only [pA,pB,pC,pD];refine tv 7 ⟨some 21,_,_,_,_,none⟩ (.int .i64 (b.room - U2 - y.room)) rfl (by rfl) ?_ hS ?_
 ·intro wy hy
  have h0:IntKind.i64.wrap (b.room - U2 - y.room)=b.room - U2 - y.room:=by rw [IntKind.wrap_i64];omega
  clear hy
  first | (go_simp;done) | (simp [go_sem,h0];done) | (go_simp;rw [h0];done)
 simp only [pA,pB,pC,pD];refine Gt (i:=8) (oi:=⟨some 22,_,_,_,_,none⟩) (v:=.pointer (some ⟨G.L i,0,none⟩)) rfl (by kernel_rfl) (Or.inl ⟨by rfl,?_⟩) hS ?_
 ·intro wy hy
  clear hy;go_simp
 simp only [pA,pB,pC,pD];refine Gt (i:=9) (oi:=⟨some 23,_,_,_,_,none⟩) (v:=.pointer (some ⟨G.L i,0,none⟩)) rfl (by kernel_rfl) (Or.inl ⟨by rfl,?_⟩) hS ?_
 ·intro wy hy
  clear hy;go_simp
 simp only [pA,pB,pC,pD];refine tv 10 ⟨some 24,_,_,_,_,none⟩ (.pointer (some ⟨G.L i,6,none⟩)) rfl (by rfl) ?_ hS ?_
 ·intro wy hy
  clear hy;go_simp
 simp only [pA,pB,pC,pD];have cz:=HL1.out.cell (o:=6) rfl;have fz2:=HL1.out.frozen 6;refine Bb (rs:=[11]) (by kernel_rfl) (by simp) (AllReadyU.last (o:=⟨none,_,_,_,_,none⟩) rfl (fun KK hKK=>?_));go_simp;clear cz fz2;have HL2:Hid (Blk (G.L i) #[.string b.name,.string b.zone,.slice am b.marks.length cm,.int .i64 b.room,.int .i64 b.hold,.bool b.closed,.int .i64 (b.room - U2 - y.room),.int .i64 (b.hold - U3),.int .i64 (U1),.slice none 0 0,.map (some (G.T i))] 111 (w2d.setCell ⟨G.L i,6,none⟩ (.int .i64 (b.room - U2 - y.room)))):=HL1.out.set 6 _;have HCn:=iH (HC1.out.other (a:=⟨G.L i,6,none⟩) (show w.heap.size≠G.L i by omega) (.int .i64 (b.room - U2 - y.room)));have HPn:=iH (HP1.out.other (a:=⟨G.L i,6,none⟩) dPL (.int .i64 (b.room - U2 - y.room)));have hSn:=hSd.set (g:=G.L i) (by simp) 6 (.int .i64 (b.room - U2 - y.room));have hBn:=Bf hBwd oL 6 (.int .i64 (b.room - U2 - y.room));refine hKK.out _ _ (Bp (by kernel_rfl) ?_ _);clear hKK KK hS HL1 HC1 HP1 hSd hBwd;generalize w2d.setCell ⟨G.L i,6,none⟩ (.int .i64 (b.room - U2 - y.room))=w3 at *;have HC1:=HCn;have HP1:=HPn;have hSd:=hSn;have hBwd:=hBn;clear HCn HPn hSn hBn;go_upto_region 3 with fail;replace hSd:=hSd.drew;replace hBwd:=hBwd.drew;replace HP1:=iH HP1.out.drew;replace HL2:=iH HL2.out.drew;replace HC1:=iH HC1.out.drew;refine Bi (S:=fun wy=>wy=w3.drew) 11 (by kernel_rfl) rfl (fun hS=>?_);generalize w3.drew=w3d at *;refine tv 0 ⟨some 25,_,_,_,_,none⟩ (.pointer (some ⟨G.L i,0,none⟩)) rfl (by rfl) ?_ hS ?_
 ·intro wy hy
  clear hy;go_simp
 simp only [pA,pB,pC,pD];refine tv 1 ⟨some 26,_,_,_,_,none⟩ (.pointer (some ⟨G.L i,0,none⟩)) rfl (by rfl) ?_ hS ?_
 ·intro wy hy
  clear hy;go_simp
 simp only [pA,pB,pC,pD];refine tv 2 ⟨some 27,_,_,_,_,none⟩ (.pointer (some ⟨G.L i,0,none⟩)) rfl (by rfl) ?_ hS ?_
 ·intro wy hy
  clear hy;go_simp
 simp only [pA,pB,pC,pD];refine tv 3 ⟨some 28,_,_,_,_,none⟩ (.pointer (some ⟨G.L i,7,none⟩)) rfl (by rfl) ?_ hS ?_
 ·intro wy hy
  clear hy;go_simp
 simp only [pA,pB,pC,pD];refine tv 4 ⟨some 29,_,_,_,_,none⟩ (.int .i64 (b.hold - U3)) rfl (by rfl) ?_ hS ?_
 ·intro wy hy
  have h0:wy.cell? ⟨G.L i,7,none⟩=some (.int .i64 (b.hold - U3)):=((hy▸HL2.out)).cell rfl;clear hy;go_simp
 simp only [pA,pB,pC,pD];refine tv 5 ⟨some 30,_,_,_,_,none⟩ (.pointer (some ⟨w.heap.size,5,none⟩)) rfl (by rfl) ?_ hS ?_
 ·intro wy hy
  clear hy;go_simp
 simp only [pA,pB,pC,pD];refine tv 6 ⟨some 31,_,_,_,_,none⟩ (.int .i64 y.hold) rfl (by rfl) ?_ hS ?_
 ·intro wy hy
  have h0:wy.cell? ⟨w.heap.size,5,none⟩=some (.int .i64 y.hold):=((hy▸HC1.out)).cell rfl;clear hy;go_simp
 simp only [pA,pB,pC,pD];refine tv 7 ⟨some 32,_,_,_,_,none⟩ (.int .i64 (b.hold - U3 - y.hold)) rfl (by rfl) ?_ hS ?_
 ·intro wy hy
  have h0:IntKind.i64.wrap (b.hold - U3 - y.hold)=b.hold - U3 - y.hold:=by rw [IntKind.wrap_i64];omega
  clear hy
  first | (go_simp;done) | (simp [go_sem,h0];done) | (go_simp;rw [h0];done)
 simp only [pA,pB,pC,pD];refine Gt (i:=8) (oi:=⟨some 33,_,_,_,_,none⟩) (v:=.pointer (some ⟨G.L i,0,none⟩)) rfl (by kernel_rfl) (Or.inl ⟨by rfl,?_⟩) hS ?_
 ·intro wy hy
  clear hy;go_simp
 simp only [pA,pB,pC,pD];refine Gt (i:=9) (oi:=⟨some 34,_,_,_,_,none⟩) (v:=.pointer (some ⟨G.L i,0,none⟩)) rfl (by kernel_rfl) (Or.inl ⟨by rfl,?_⟩) hS ?_
 ·intro wy hy
  clear hy;go_simp
 simp only [pA,pB,pC,pD];refine tv 10 ⟨some 35,_,_,_,_,none⟩ (.pointer (some ⟨G.L i,7,none⟩)) rfl (by rfl) ?_ hS ?_
 ·intro wy hy
  clear hy;go_simp
 simp only [pA,pB,pC,pD];have cz:=HL2.out.cell (o:=7) rfl;have fz2:=HL2.out.frozen 7;refine Bb (rs:=[11]) (by kernel_rfl) (by simp) (AllReadyU.last (o:=⟨none,_,_,_,_,none⟩) rfl (fun KK hKK=>?_));go_simp;clear cz fz2;have HL3:Hid (Blk (G.L i) #[.string b.name,.string b.zone,.slice am b.marks.length cm,.int .i64 b.room,.int .i64 b.hold,.bool b.closed,.int .i64 (b.room - U2 - y.room),.int .i64 (b.hold - U3 - y.hold),.int .i64 (U1),.slice none 0 0,.map (some (G.T i))] 111 (w3d.setCell ⟨G.L i,7,none⟩ (.int .i64 (b.hold - U3 - y.hold)))):=HL2.out.set 7 _;have HCn:=iH (HC1.out.other (a:=⟨G.L i,7,none⟩) (show w.heap.size≠G.L i by omega) (.int .i64 (b.hold - U3 - y.hold)));have HPn:=iH (HP1.out.other (a:=⟨G.L i,7,none⟩) dPL (.int .i64 (b.hold - U3 - y.hold)));have hSn:=hSd.set (g:=G.L i) (by simp) 7 (.int .i64 (b.hold - U3 - y.hold));have hBn:=Bf hBwd oL 7 (.int .i64 (b.hold - U3 - y.hold));refine hKK.out _ _ (Bp (by kernel_rfl) ?_ _);clear hKK KK hS HL2 HC1 HP1 hSd hBwd;generalize w3d.setCell ⟨G.L i,7,none⟩ (.int .i64 (b.hold - U3 - y.hold))=w4 at *;have HC1:=HCn;have HP1:=HPn;have hSd:=hSn;have hBwd:=hBn;clear HCn HPn hSn hBn;go_upto_region 4 with fail;have cz:w4.cell? ⟨G.L i,8,none⟩=some (.int .i64 U1):=HL3.out.cell rfl;have fz2:=HL3.out.frozen 8;go_upto_region 5 with fail;clear cz fz2;have HL4:Hid (Blk (G.L i) #[.string b.name,.string b.zone,.slice am b.marks.length cm,.int .i64 b.room,.int .i64 b.hold,.bool b.closed,.int .i64 (b.room - U2 - y.room),.int .i64 (b.hold - U3 - y.hold),.int .i64 (U1+1),.slice none 0 0,.map (some (G.T i))] 111 (w4.setCell ⟨G.L i,8,none⟩ (.int .i64 (U1+1)))):=HL3.out.set 8 _;have HCn:=iH (HC1.out.other (a:=⟨G.L i,8,none⟩) (show w.heap.size≠G.L i by omega) (.int .i64 (U1+1)));have HPn:=iH (HP1.out.other (a:=⟨G.L i,8,none⟩) dPL (.int .i64 (U1+1)));have hSn:=hSd.set (g:=G.L i) (by simp) 8 (.int .i64 (U1+1));have hBn:=Bf hBwd oL 8 (.int .i64 (U1+1));clear HL3 HC1 HP1 hSd hBwd;generalize w4.setCell ⟨G.L i,8,none⟩ (.int .i64 (U1+1))=w5 at *;have HC5:=iH HCn.out.drew;have HP5:=iH HPn.out.drew;have hS5:=hSn.drew;have hB5:=hBn.drew;replace HL4:=iH HL4.out.drew;clear HCn HPn hSn hBn;refine wp_region_held_drew (S:=fun wy=>Below w5.drew.heap.size w5.drew wy) (by kernel_rfl) (Below.refl _ _) (fun hS=>?_);generalize w5.drew=w6 at *;have yl:∀ wy,Below w6.heap.size w6 wy→(Instr.lookup 104 (.map (some G.mz)) (.string b.zone) false).run Tryz.prog wy=.ok (.map (some (G.Z b.zone))) wy:=by
  intro wy hwy;have h9:=((HMZm.out.heap (w':=w6) (hS5.2 _ HMZm.out.lt (by simp;exact dzL))).below hwy).look Tryz.underlying104 (gP wy) (s:=b.zone) (by unfold maxLen;omega);rw [HZE.out] at h9;exact h9
 refine tz 0 45 (.pointer (some ⟨G.L i,0,none⟩)) rfl hS ?_;simp only [pA,pB,pC,pD];refine tz 1 46 (.pointer (some ⟨G.L i,0,none⟩)) rfl hS ?_;simp only [pA,pB,pC,pD];refine tz 2 47 (.pointer (some ⟨G.L i,10,none⟩)) rfl hS ?_;simp only [pA,pB,pC,pD];refine tl 3 48 (.map (some (G.T i))) ⟨G.L i,10,none⟩ rfl (fun wy hy=>((HL4.out.below hy HL4.out.lt)).cell rfl) hS ?_;simp only [pA,pB,pC,pD];refine tz 4 49 (.pointer (some ⟨G.p,0,none⟩)) rfl hS ?_;simp only [pA,pB,pC,pD];refine tz 5 50 (.pointer (some ⟨G.p,0,none⟩)) rfl hS ?_;simp only [pA,pB,pC,pD];refine tz 6 51 (.pointer (some ⟨G.p,2,none⟩)) rfl hS ?_;simp only [pA,pB,pC,pD];refine tl 7 52 (.map (some G.mz)) ⟨G.p,2,none⟩ rfl (fun wy hy=>((HP5.out.below hy HP5.out.lt)).cell rfl) hS ?_;simp only [pA,pB,pC,pD];refine tz 8 53 (.pointer (some ⟨G.L i,0,none⟩)) rfl hS ?_;simp only [pA,pB,pC,pD];refine tz 9 54 (.pointer (some ⟨G.L i,0,none⟩)) rfl hS ?_;simp only [pA,pB,pC,pD];refine tz 10 55 (.pointer (some ⟨G.L i,0,none⟩)) rfl hS ?_;simp only [pA,pB,pC,pD];refine tz 11 56 (.pointer (some ⟨G.L i,0,none⟩)) rfl hS ?_;simp only [pA,pB,pC,pD];refine tz 12 57 (.pointer (some ⟨G.L i,1,none⟩)) rfl hS ?_;simp only [pA,pB,pC,pD];refine tl 13 58 (.string b.zone) ⟨G.L i,1,none⟩ rfl (fun wy hy=>((HL4.out.below hy HL4.out.lt)).cell rfl) hS ?_;simp only [pA,pB,pC,pD];refine ty 14 ⟨some 59,_,_,_,_,none⟩ (.map (some (G.Z b.zone))) rfl (by rfl) ?_ hS ?_
 ·intro wy hy
  have h0:=yl wy hy;clear hy
  first | (go_simp;done) | (simp [go_sem,h0];done) | (go_simp;rw [h0];done) | (go_simp;rw [h0];rfl)
 simp only [pA,pB,pC,pD];refine tz 15 60 (.pointer (some ⟨G.p,0,none⟩)) rfl hS ?_;simp only [pA,pB,pC,pD];refine tz 16 61 (.pointer (some ⟨G.p,0,none⟩)) rfl hS ?_;simp only [pA,pB,pC,pD];refine tz 17 62 (.pointer (some ⟨G.p,3,none⟩)) rfl hS ?_;simp only [pA,pB,pC,pD];refine tl 18 63 (.map (some G.mt)) ⟨G.p,3,none⟩ rfl (fun wy hy=>((HP5.out.below hy HP5.out.lt)).cell rfl) hS ?_;simp only [pA,pB,pC,pD];refine tz 21 66 (.int .i64 0) rfl hS ?_;simp only [pA,pB,pC,pD];refine rd1 19 ⟨some 64,_,_,_,_,none⟩ rfl (fun K hK=>?_);go_simp;have HS7:=iH (Blk.alloc w6 #[.map (some (G.T i)),.map (some (G.Z b.zone)),.map (some G.mt)] 106);have hb7:Below w6.heap.size w6 (w6.alloc (Obj.cells #[.map (some (G.T i)),.map (some (G.Z b.zone)),.map (some G.mt)] 106)):=(Below.refl _ _).alloc nL _;have hw6:w.heap.size<w6.heap.size:=HC5.out.lt;refine hK.out _ _ hb7 (fun hS=>?_);clear hK K yl;have HC7:=iH (HC5.out.below hb7 HC5.out.lt);have HL7:=iH (HL4.out.below hb7 HL4.out.lt);have hS7:=hS5.below hb7;have hB7:=hB5.trans (hb7.mono hB5.size);clear HC5 HL4 hS5 hB5 HP5 hb7;generalize w6.alloc (Obj.cells #[.map (some (G.T i)),.map (some (G.Z b.zone)),.map (some G.mt)] 106)=w7 at *;generalize w6.heap.size=sb at *;refine tz 20 65 (.int .i64 3) rfl hS ?_;simp only [pA,pB,pC,pD];refine td ?_;clear hS;have HE7:Hid (E3 x b y G kb c i 0 w7):=⟨⟨nT,hnT,HMT0.out.sv hS7 (by simp;exact dLT.symm)⟩,⟨nZ,hnZ,HMZ0.out.sv hS7 (by simp;exact dLZ.symm)⟩,⟨nM,hnM,HMM0.out.sv hS7 (by simp;exact dLM.symm)⟩⟩;have HS9:Hid (Sv [G.L i,G.T i,G.Z b.zone,G.mt] w w7):=hS7.wide (by simp);have HE0:Hid (E3 x b y G kb c i 0 w7):=HE7;go_wp2_with fail;go_loopw [66] (fun v wr=>∃ jn:Nat,jn≤3∧v=.int .i64 (jn:Int)∧Hid (E3 x b y G kb c i jn wr)∧Hid (Sv [G.L i,G.T i,G.Z b.zone,G.mt] w wr)∧Hid (Below W0.heap.size W0 wr)∧Hid (Blk w.heap.size #[.string y.name,.string y.service,.int .i64 y.rank,.int .i64 y.born,.int .i64 y.room,.int .i64 y.hold,.string y.select,.slice ae y.likes.length ce,.int .i64 y.apart,.string y.near,.string y.fixed,.string y.at_] 83 wr)∧Hid (Blk (G.L i) #[.string b.name,.string b.zone,.slice am b.marks.length cm,.int .i64 b.room,.int .i64 b.hold,.bool b.closed,.int .i64 (b.room - U2 - y.room),.int .i64 (b.hold - U3 - y.hold),.int .i64 (U1+1),.slice none 0 0,.map (some (G.T i))] 111 wr)∧Hid (Blk sb #[.map (some (G.T i)),.map (some (G.Z b.zone)),.map (some G.mt)] 106 wr)) (fun v _=>3 - (intOf v).toNat)
 case atStart=>exact ⟨0,by omega,rfl,HE0,HS9,hB7,HC7,HL7,HS7⟩
 case round =>
  clear HE0 hS7 hB7 HC7 HL7 HS7 HE7 HS9;obtain ⟨jn,hjn,rfl,HE,HS,HB,HC,HL,HSB⟩:=hrel;have hne:G.L i≠sb∧G.T i≠sb∧G.Z b.zone≠sb∧G.mt≠sb:=⟨by omega,by omega,by omega,by omega⟩;rcases (by omega:jn=3∨jn=0∨jn=1∨jn=2) with e | e | e | e
  case inl =>
   subst e;go_wp2_with fail
   first | go_end0 | ((try simp only [Exit.inBlock,Exit.then]);refine bodyPost_ret (results_none rfl _ _ _) rfl ?_)
   obtain ⟨eT,eZ,eM⟩:=HE.out;refine ⟨rfl,HH.out.enter HV.out HY.out HBB.out HAA.out (am:=am) (cm:=cm) ?_ HSL.out eT eZ eM HS.out HB.out⟩;have h9:=HL.out;rw [← HU.out];rw [show b.room - U2 - y.room=b.room - (U2+y.room) by omega,show b.hold - U3 - y.hold=b.hold - (U3+y.hold) by omega] at h9;exact h9
  case inr.inl =>
   subst e;have kc:wr.cell? ⟨sb,0,none⟩=some (.map (some (G.T i))):=HSB.out.cell rfl;obtain ⟨eT,eZ,eM⟩:=HE.out;have HT:=iH eT;have HZ:=iH eZ;have HMt:=iH eM;clear eT eZ eM HE;obtain ⟨n,hn,hM⟩:=HT.out;go_upto_region 8 with fail;clear kc;go_wp2_with (refine wpList_load_mid rfl 83 _ rfl w.heap.size 0 rfl [.string y.name,.string y.service,.int .i64 y.rank,.int .i64 y.born,.int .i64 y.room,.int .i64 y.hold,.string y.select,.slice ae y.likes.length ce,.int .i64 y.apart,.string y.near,.string y.fixed,.string y.at_] _ HC.out.rangeA Tryz.underlying83 rfl Ca ?_);refine (Tq y ae ce (Al (onB b.name) x.copies c) (G.T i) n wr hM (Dx _ _ _) (by omega) (HSM.out _) (by omega)).mono ?_;rintro e w8 ⟨rfl,hM8,hg8⟩;have HE8:Hid (E3 x b y G kb c i 1 w8):=⟨⟨n+1,by omega,hM8⟩,HZ.out.heap (fun g e hg=>hg8.block g hg (fun e2=>(by have:=Option.some.inj e2;omega))),HMt.out.heap (fun g e hg=>hg8.block g hg (fun e2=>(by have:=Option.some.inj e2;omega)))⟩;have HS8:=iH (HS.out.grown hg8 (by simp));have HB8:Hid (Below W0.heap.size W0 w8):=HB.out.grown hg8 HB.out.size (fun k hk=>by cases hk;omega);have HC8:=iH (HC.out.grown hg8 (fun e=>by have:=Option.some.inj e;omega));have HL8:=iH (HL.out.grown hg8 (fun e=>by have:=Option.some.inj e;omega));have HSB8:=iH (HSB.out.grown hg8 (fun e=>by have:=Option.some.inj e;omega));clear hM hM8 hg8 HT HZ HMt HS HB HC HL HSB;go_wp2_with fail;go_roundw
   case rel=>exact ⟨1,by omega,rfl,HE8,HS8,HB8,HC8,HL8,HSB8⟩
   case measure=>simp [intOf]
  case inr.inr.inl =>
   subst e;have kc:wr.cell? ⟨sb,1,none⟩=some (.map (some (G.Z b.zone))):=HSB.out.cell rfl;obtain ⟨eT,eZ,eM⟩:=HE.out;have HT:=iH eT;have HZ:=iH eZ;have HMt:=iH eM;clear eT eZ eM HE;obtain ⟨n,hn,hM⟩:=HZ.out;go_upto_region 8 with fail;clear kc;go_wp2_with (refine wpList_load_mid rfl 83 _ rfl w.heap.size 0 rfl [.string y.name,.string y.service,.int .i64 y.rank,.int .i64 y.born,.int .i64 y.room,.int .i64 y.hold,.string y.select,.slice ae y.likes.length ce,.int .i64 y.apart,.string y.near,.string y.fixed,.string y.at_] _ HC.out.rangeA Tryz.underlying83 rfl Ca ?_);refine (Tq y ae ce (Al (inZ x b.zone) x.copies c) (G.Z b.zone) n wr hM (Dx _ _ _) (by omega) (HSM.out _) (by omega)).mono ?_;rintro e w8 ⟨rfl,hM8,hg8⟩;have HE8:Hid (E3 x b y G kb c i 2 w8):=⟨HT.out.heap (fun g e hg=>hg8.block g hg (fun e2=>(by have:=Option.some.inj e2;omega))),⟨n+1,by omega,hM8⟩,HMt.out.heap (fun g e hg=>hg8.block g hg (fun e2=>(by have:=Option.some.inj e2;omega)))⟩;have HS8:=iH (HS.out.grown hg8 (by simp));have HB8:Hid (Below W0.heap.size W0 w8):=HB.out.grown hg8 HB.out.size (fun k hk=>by cases hk;omega);have HC8:=iH (HC.out.grown hg8 (fun e=>by have:=Option.some.inj e;omega));have HL8:=iH (HL.out.grown hg8 (fun e=>by have:=Option.some.inj e;omega));have HSB8:=iH (HSB.out.grown hg8 (fun e=>by have:=Option.some.inj e;omega));clear hM hM8 hg8 HT HZ HMt HS HB HC HL HSB;go_wp2_with fail;go_roundw
   case rel=>exact ⟨2,by omega,rfl,HE8,HS8,HB8,HC8,HL8,HSB8⟩
   case measure=>simp [intOf]
  case inr.inr.inr =>
   subst e;have kc:wr.cell? ⟨sb,2,none⟩=some (.map (some G.mt)):=HSB.out.cell rfl;obtain ⟨eT,eZ,eM⟩:=HE.out;have HT:=iH eT;have HZ:=iH eZ;have HMt:=iH eM;clear eT eZ eM HE;obtain ⟨n,hn,hM⟩:=HMt.out;go_upto_region 8 with fail;clear kc;go_wp2_with (refine wpList_load_mid rfl 83 _ rfl w.heap.size 0 rfl [.string y.name,.string y.service,.int .i64 y.rank,.int .i64 y.born,.int .i64 y.room,.int .i64 y.hold,.string y.select,.slice ae y.likes.length ce,.int .i64 y.apart,.string y.near,.string y.fixed,.string y.at_] _ HC.out.rangeA Tryz.underlying83 rfl Ca ?_);refine (Tq y ae ce (Al stP x.copies c) G.mt n wr hM (Dx _ _ _) (by omega) (HSM.out _) (by omega)).mono ?_;rintro e w8 ⟨rfl,hM8,hg8⟩;have HE8:Hid (E3 x b y G kb c i 3 w8):=⟨HT.out.heap (fun g e hg=>hg8.block g hg (fun e2=>(by have:=Option.some.inj e2;omega))),HZ.out.heap (fun g e hg=>hg8.block g hg (fun e2=>(by have:=Option.some.inj e2;omega))),⟨n+1,by omega,hM8⟩⟩;have HS8:=iH (HS.out.grown hg8 (by simp));have HB8:Hid (Below W0.heap.size W0 w8):=HB.out.grown hg8 HB.out.size (fun k hk=>by cases hk;omega);have HC8:=iH (HC.out.grown hg8 (fun e=>by have:=Option.some.inj e;omega));have HL8:=iH (HL.out.grown hg8 (fun e=>by have:=Option.some.inj e;omega));have HSB8:=iH (HSB.out.grown hg8 (fun e=>by have:=Option.some.inj e;omega));clear hM hM8 hg8 HT HZ HMt HS HB HC HL HSB;go_wp2_with fail;go_roundw
   case rel=>exact ⟨3,by omega,rfl,HE8,HS8,HB8,HC8,HL8,HSB8⟩
   case measure=>simp [intOf]
end Go.Proofs.YtpeajnkkdioflaaGreat
