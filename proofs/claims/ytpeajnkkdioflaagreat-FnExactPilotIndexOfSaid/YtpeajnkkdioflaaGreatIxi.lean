import Derived.Test.YtpeajnkkdioflaaGreatJ38
set_option maxHeartbeats 8000000
set_option maxRecDepth 100000
namespace Go.Proofs.YtpeajnkkdioflaaGreat
open Go.RowKit Go.WideMaps Go.Maps Go.Sort
theorem eF {ns:List ByteArray} (h:AscN ns):Asc id ns:=by
 unfold Asc;rw [List.pairwise_iff_getElem];intro i j hi hj hij;have:=h.less (List.getElem?_eq_getElem hi) (List.getElem?_eq_getElem hj) hij;rw [bytesLess_eq] at this;exact of_decide_eq_true this
theorem Tn {base:Nat} {e:TypeId} {s:Nat} {v:Value} {m px:Nat} {cs:List Value} {w w':World} (h:w.ownsRow base e s v m cs) (hs:Sv [px] w w') (hn:v.ownBlock≠some px):w'.ownsRow base e s v m cs:=by
 refine ⟨h.1,?_⟩;rcases h.2 with h1 | ⟨g,cap,cur,h1,h2,h3,h4⟩
 ·exact .inl h1
 ·refine .inr ⟨g,cap,cur,h1,h2,(hs.2 g (Array.getElem?_eq_some_iff.1 h3).1 ?_).trans h3,h4⟩
  intro hm;rw [List.mem_singleton.1 hm] at h1;exact hn (by rw [h1];rfl)
theorem aB {base:Nat} {e:TypeId} {s m q:Nat} {a:Option Addr} {cs:List Value} {w:World} (h:w.ownsRow base e s (.slice a m q) m cs) (hm:0<m):∃ g,a=some ⟨g,0,none⟩:=by
 rcases h.2 with ⟨_,h2⟩ | ⟨g,cap,cur,h1,_⟩
 ·omega
 ·exact ⟨g,by injection h1⟩
theorem jV {w:World} {g:Nat} {cs:List Value} {t:TypeId} (h:Blk g cs.toArray t w):∀ j u,cs[j]?=some u→w.cell? ((⟨g,0,none⟩:Addr).add j)=some u:=by
 intro j u hj;rw [Addr.add_mid];exact h.range j u hj
theorem dR {xs:List ByteArray} (h:wS ByteArray.size xs≤1048576):Lb xs 1048576:=fun _ hx=>Nat.le_trans (Fo (f:=ByteArray.size) hx) h
theorem iT:(Tryz.prog.info? 92).map (fun i=>(i.zero,i.size,i.bytes))=some (some (.agg #[.string ⟨#[]⟩,.string ⟨#[]⟩,.slice none 0 0,.int .i64 0,.int .i64 0,.bool false,.int .i64 0,.int .i64 0,.int .i64 0,.slice none 0 0]),10,128):=by kernel_rfl
theorem iY:(Tryz.prog.info? 95).map (fun i=>(i.zero,i.size,i.bytes))=some (some (.agg #[.string ⟨#[]⟩,.slice none 0 0]),2,40):=by kernel_rfl
theorem cT (w:World):(zeroValue 109).run Tryz.prog w=.ok (.pointer none) w:=by kernel_rfl
theorem dN (w:World):(zeroValue 106).run Tryz.prog w=.ok (.map none) w:=by kernel_rfl
theorem Gb:(Tryz.prog.info? 32).map (·.size)=some 4:=by kernel_rfl
def gB (x:Flt) (w:World) (e:Ending) (w':World):Prop:=∃ (at_:Option Addr) (qt:Nat) (ar:Option Addr) (qr:Nat) (az:Option Addr) (qz B2:Nat) (wk:World),e=.returned (.agg #[.bool x.pack,.slice ar x.berths.length qr,.slice az (Ah x.berths x.berths.length).length qz,.slice at_ (Al stP x.copies x.copies.length).length qt])∧w'.ownsRow w.heap.size 125 4 (.slice at_ (Al stP x.copies x.copies.length).length qt) (Al stP x.copies x.copies.length).length (Am (Al stP x.copies x.copies.length))∧(∀ b o s,at_=some ⟨b,o,s⟩→b<B2)∧OwnRw B2 wk (.slice ar x.berths.length qr) (x.berths.map (Dl x))∧(∀ b,B2≤b→b<wk.heap.size→w'.heap[b]?=wk.heap[b]?)∧OwnZn wk.heap.size w' (.slice az (Ah x.berths x.berths.length).length qz) ((Ah x.berths x.berths.length).map (znM x))∧w.heap.size≤B2∧B2≤wk.heap.size∧Below w.heap.size w w'
def Ix1 (x:Flt) (w:World) (v:Value) (wz:World):Prop:=∃ (px:Nat) (at_:Option Addr) (qt:Nat),v=.pointer (some ⟨px,0,none⟩)∧Blk px #[.bool x.pack,.slice none 0 0,.slice none 0 0,.slice at_ (Al stP x.copies x.copies.length).length qt] 32 wz∧wz.ownsRow w.heap.size 125 4 (.slice at_ (Al stP x.copies x.copies.length).length qt) (Al stP x.copies x.copies.length).length (Am (Al stP x.copies x.copies.length))∧(∀ b o s,at_=some ⟨b,o,s⟩→b≠px∧w.heap.size<b)∧w.heap.size<px∧Blk w.heap.size #[.bool false,.slice none 0 0,.slice none 0 0,.slice none 0 0] 32 wz∧Below w.heap.size w wz
theorem dI (x:Flt) (lo:Nat) (wa:World) (G:Lg) (w:World) (h:LgI x lo wa G 72 x.berths.length x.copies.length w) (hv:VOk x) :
  Calls Tryz.prog 23 #[.pointer (some ⟨G.p,0,none⟩)] w fun e w'=>gB x w e w':=by
 have HV:=iH hv;have hnb:=hv.nb;have hnc:=hv.nc;have hsvc:∀ z∈x.copies,z.service.size≤20:=fun z hz=>by obtain ⟨q,hq⟩:=List.getElem?_of_mem hz;exact (hv.cs q z hq).1
 have HSM:Hid (∀ p,∀ z∈Al p x.copies x.copies.length,z.service.size≤20):=fun p z hz=>(Ef hsvc hnc z hz).1
 have HCL:Hid (∀ p,(Al p x.copies x.copies.length).length≤60):=fun p=>Nat.le_trans (Fh _ _ _) hnc
 clear hv hsvc;have hb0:Below w.heap.size w (w.alloc (Obj.cells #[.bool false,.slice none 0 0,.slice none 0 0,.slice none 0 0] 32)):=(Below.refl _ _).alloc nL _;have HR0:=iH (Blk.alloc w #[.bool false,.slice none 0 0,.slice none 0 0,.slice none 0 0] 32);have HH:=iH h;have HML0:Hid (G.ml<w.heap.size):=by obtain ⟨_,_,_,g2,_⟩:=h.ML;exact g2.lt
 have HMZ0:Hid (G.mz<w.heap.size):=by obtain ⟨_,_,_,g2,_⟩:=h.MZ;exact g2.lt
 have HI0:=iH (h.below hb0);have hpl:G.p<w.heap.size:=h.P.lt;clear h;go_enter Tryz.func23,Tryz.ntmps23;go_upto_region 1 with fail;generalize (w.alloc (Obj.cells #[.bool false,.slice none 0 0,.slice none 0 0,.slice none 0 0] 32))=w1 at *
 go_cut [3] (fun v wz=>Ix1 x w v wz)
 case first =>
  have HId:=iH HI0.out.drew;have HRd:=iH HR0.out.drew;have hbd:=hb0.drew;refine Bi (S:=fun wy=>Below w1.drew.heap.size w1.drew wy) 11 (by kernel_rfl) (Below.refl _ _) (fun hS=>?_);clear HI0 HR0 hb0;generalize w1.drew=wd at *;have hr0:w.heap.size<wd.heap.size:=HRd.out.lt;obtain ⟨nM,hnM,hMM⟩:=HId.out.MT;have HMM:=iH hMM;have hcl:=HCL.out stP;clear hMM;refine tv 0 ⟨some 8,_,_,_,_,none⟩ (.pointer (some ⟨G.p,0,none⟩)) rfl (by rfl) ?_ hS ?_
  ·intro wy hy
   clear hy;go_simp
  simp only [pA,pB,pC,pD];refine tv 1 ⟨some 9,_,_,_,_,none⟩ (.pointer (some ⟨G.p,0,none⟩)) rfl (by rfl) ?_ hS ?_
  ·intro wy hy
   clear hy;go_simp
  simp only [pA,pB,pC,pD];refine tv 2 ⟨some 10,_,_,_,_,none⟩ (.pointer (some ⟨G.p,0,none⟩)) rfl (by rfl) ?_ hS ?_
  ·intro wy hy
   clear hy;go_simp
  simp only [pA,pB,pC,pD];refine tv 3 ⟨some 11,_,_,_,_,none⟩ (.bool x.pack) rfl (by rfl) ?_ hS ?_
  ·intro wy hy
   have h0:wy.cell? ⟨G.p,0,none⟩=some (.bool x.pack):=((HId.out.P.below hy HId.out.P.lt)).cell rfl;clear hy;go_simp
  simp only [pA,pB,pC,pD];refine tv 4 ⟨some 12,_,_,_,_,none⟩ (.pointer (some ⟨G.p,0,none⟩)) rfl (by rfl) ?_ hS ?_
  ·intro wy hy
   clear hy;go_simp
  simp only [pA,pB,pC,pD];refine tv 5 ⟨some 13,_,_,_,_,none⟩ (.pointer (some ⟨G.p,0,none⟩)) rfl (by rfl) ?_ hS ?_
  ·intro wy hy
   clear hy;go_simp
  simp only [pA,pB,pC,pD];refine tv 6 ⟨some 14,_,_,_,_,none⟩ (.pointer (some ⟨G.p,3,none⟩)) rfl (by rfl) ?_ hS ?_
  ·intro wy hy
   clear hy;go_simp
  simp only [pA,pB,pC,pD];refine tv 7 ⟨some 15,_,_,_,_,none⟩ (.map (some G.mt)) rfl (by rfl) ?_ hS ?_
  ·intro wy hy
   have h0:wy.cell? ⟨G.p,3,none⟩=some (.map (some G.mt)):=((HId.out.P.below hy HId.out.P.lt)).cell rfl;clear hy;go_simp
  simp only [pA,pB,pC,pD];refine Bb (rs:=[8,10]) (by kernel_rfl) (by simp) (AllReadyU.cons (o:=⟨some 16,_,_,_,_,none⟩) rfl (fun KK hKK=>?_) (AllReadyU.cons (o:=⟨some 3,_,_,_,_,none⟩) rfl (fun KK hKK=>?_) AllReadyU.nil))
  ·skip
   go_simp;refine (Hr (Al stP x.copies x.copies.length) G.mt nM wd HMM.out (by omega) (Dx _ _ _) (HSM.out _) (by omega)).mono ?_;rintro e w3 ⟨at_,qt,rfl,hO,hb3⟩;have hBn:=hbd.trans (hb3.mono hbd.size);refine hKK.out _ _ hb3 (fun hS=>?_);clear hKK KK;have HIn:=iH (HId.out.below hb3);have HRn:=iH (HRd.out.below hb3 HRd.out.lt);have HO:=iH hO;have hs3:=hb3.size;have HOB:Hid (∀ b o s,at_=some ⟨b,o,s⟩→b<w3.heap.size∧wd.heap.size≤b):=fun b o s e=>⟨Oo HO.out b o s e,Dh HO.out b (by rw [e];rfl)⟩
   clear hO;refine tv 9 ⟨some 17,_,_,_,_,none⟩ (.agg #[.bool x.pack,.slice none 0 0,.slice none 0 0,.slice at_ (Al stP x.copies x.copies.length).length qt]) rfl (by rfl) ?_ hS ?_
   ·intro wy hy
    clear hy;go_simp
   simp only [pA,pB,pC,pD];refine ru1 10 ⟨some 3,_,_,_,_,none⟩ rfl (fun KK hKK=>?_);go_simp;have hbx:Below w3.heap.size w3 (w3.alloc (Obj.cells #[.bool false,.slice none 0 0,.slice none 0 0,.slice none 0 0] 32)):=(Below.refl _ _).alloc nL _;have HX:=iH (Blk.alloc w3 #[.bool false,.slice none 0 0,.slice none 0 0,.slice none 0 0] 32);refine hKK.out _ _ (hb3.trans (hbx.mono hs3)) (fun hS=>?_);clear hKK KK;have HIm:=iH (HIn.out.below hbx);have HRm:=iH (HRn.out.below hbx HRn.out.lt);have HOm:=iH (Ao HO.out hbx);have hBm:=hBn.trans (hbx.mono hBn.size);generalize w3.alloc (Obj.cells #[.bool false,.slice none 0 0,.slice none 0 0,.slice none 0 0] 32)=w4 at *;generalize w3.heap.size=px at *;refine Bb (rs:=[11]) (by kernel_rfl) (by simp) (AllReadyU.last (o:=⟨none,_,_,_,_,none⟩) rfl (fun KK hKK=>?_));rw [if_pos (by rfl)];refine wp_store_mid 32 (.tmp 3) (.tmp 17) (by rfl) px 0 #[.bool x.pack,.slice none 0 0,.slice none 0 0,.slice at_ (Al stP x.copies x.copies.length).length qt] (by rfl) (by rfl) HX.out.there Gb (by simp [Value.oneCell']) ?_;have hg5:w4.grownBy (w4.setCells px 0 #[.bool x.pack,.slice none 0 0,.slice none 0 0,.slice at_ (Al stP x.copies x.copies.length).length qt].toList) (some px):=Ch _ _ _;have HX5:Hid (Blk px #[.bool x.pack,.slice none 0 0,.slice none 0 0,.slice at_ (Al stP x.copies x.copies.length).length qt] 32 (w4.setCells px 0 #[.bool x.pack,.slice none 0 0,.slice none 0 0,.slice at_ (Al stP x.copies x.copies.length).length qt].toList)):=HX.out.setAll _ rfl;have HR5:=iH (HRm.out.grown hg5 (fun e=>by have:=Option.some.inj e;omega));have HO5:Hid (World.ownsRow _ _ _ _ _ _ _):=HOm.out.kept hg5 (by cases e9:at_ with | none=>exact .inl rfl | some ad=>exact .inr (fun e8=>by obtain ⟨bb,oo,sp⟩:=ad;have:=HOB.out bb oo sp e9;have e7:bb=px:=Option.some.inj e8;omega));have hB5:Below w.heap.size w (w4.setCells px 0 #[.bool x.pack,.slice none 0 0,.slice none 0 0,.slice at_ (Al stP x.copies x.copies.length).length qt].toList):=Ai (by omega) _ _ _ hBm;have hC5:=hBm.size;refine hKK.out _ _ (Bp (by kernel_rfl) ?_ _);clear hKK KK hS;generalize w4.setCells px 0 #[.bool x.pack,.slice none 0 0,.slice none 0 0,.slice at_ (Al stP x.copies x.copies.length).length qt].toList=w5 at *;go_wp2_with fail;go_meet;exact ⟨px,at_,qt,rfl,HX5.out,Bd HO5.out (by omega),(fun b o s e=>by have:=HOB.out b o s e;omega),(by omega),HR5.out,hB5⟩
  ·skip
   go_simp;have hba:Below wd.heap.size wd (wd.alloc (Obj.cells #[.bool false,.slice none 0 0,.slice none 0 0,.slice none 0 0] 32)):=(Below.refl _ _).alloc nL _;have HXa:=iH (Blk.alloc wd #[.bool false,.slice none 0 0,.slice none 0 0,.slice none 0 0] 32);refine hKK.out _ _ hba (fun hS=>?_);clear hKK KK;have HIn:=iH (HId.out.below hba);have HRn:=iH (HRd.out.below hba HRd.out.lt);have hBn:=hbd.trans (hba.mono hbd.size);generalize wd.alloc (Obj.cells #[.bool false,.slice none 0 0,.slice none 0 0,.slice none 0 0] 32)=w3 at *;have hs3:wd.heap.size<w3.heap.size:=HXa.out.lt;refine ru1 8 ⟨some 16,_,_,_,_,none⟩ rfl (fun KK hKK=>?_);go_simp;refine (Hr (Al stP x.copies x.copies.length) G.mt nM w3 (HMM.out.below hba) (by omega) (Dx _ _ _) (HSM.out _) (by omega)).mono ?_;rintro e w4 ⟨at_,qt,rfl,hO,hb3⟩;have hBm:=hBn.trans (hb3.mono hBn.size);refine hKK.out _ _ (hS.trans (hb3.mono (by omega))) (fun hS=>?_);clear hKK KK;have HIm:=iH (HIn.out.below hb3);have HRm:=iH (HRn.out.below hb3 HRn.out.lt);have HOm:=iH hO;have HX:=iH (HXa.out.below hb3 HXa.out.lt);have HOB:Hid (∀ b o s,at_=some ⟨b,o,s⟩→w3.heap.size≤b):=fun b o s e=>Dh HOm.out b (by rw [e];rfl)
   clear hO hb3 hba;refine tv 9 ⟨some 17,_,_,_,_,none⟩ (.agg #[.bool x.pack,.slice none 0 0,.slice none 0 0,.slice at_ (Al stP x.copies x.copies.length).length qt]) rfl (by rfl) ?_ hS ?_
   ·intro wy hy
    clear hy;go_simp
   simp only [pA,pB,pC,pD];refine Bb (rs:=[11]) (by kernel_rfl) (by simp) (AllReadyU.last (o:=⟨none,_,_,_,_,none⟩) rfl (fun KK hKK=>?_));rw [if_pos (by rfl)];refine wp_store_mid 32 (.tmp 3) (.tmp 17) (by rfl) wd.heap.size 0 #[.bool x.pack,.slice none 0 0,.slice none 0 0,.slice at_ (Al stP x.copies x.copies.length).length qt] (by rfl) (by rfl) HX.out.there Gb (by simp [Value.oneCell']) ?_;have hg5:w4.grownBy (w4.setCells wd.heap.size 0 #[.bool x.pack,.slice none 0 0,.slice none 0 0,.slice at_ (Al stP x.copies x.copies.length).length qt].toList) (some wd.heap.size):=Ch _ _ _;have HX5:Hid (Blk wd.heap.size #[.bool x.pack,.slice none 0 0,.slice none 0 0,.slice at_ (Al stP x.copies x.copies.length).length qt] 32 (w4.setCells wd.heap.size 0 #[.bool x.pack,.slice none 0 0,.slice none 0 0,.slice at_ (Al stP x.copies x.copies.length).length qt].toList)):=HX.out.setAll _ rfl;have HR5:=iH (HRm.out.grown hg5 (fun e=>by have:=Option.some.inj e;omega));have HO5:Hid (World.ownsRow _ _ _ _ _ _ _):=HOm.out.kept hg5 (by cases e9:at_ with | none=>exact .inl rfl | some ad=>exact .inr (fun e8=>by obtain ⟨bb,oo,sp⟩:=ad;have:=HOB.out bb oo sp e9;have e7:bb=wd.heap.size:=Option.some.inj e8;omega));have hB5:Below w.heap.size w (w4.setCells wd.heap.size 0 #[.bool x.pack,.slice none 0 0,.slice none 0 0,.slice at_ (Al stP x.copies x.copies.length).length qt].toList):=Ai (by omega) _ _ _ hBm;have hC5:=hBm.size;refine hKK.out _ _ (Bp (by kernel_rfl) ?_ _);clear hKK KK hS;generalize w4.setCells wd.heap.size 0 #[.bool x.pack,.slice none 0 0,.slice none 0 0,.slice at_ (Al stP x.copies x.copies.length).length qt].toList=w5 at *;go_wp2_with fail;go_meet;exact ⟨wd.heap.size,at_,qt,rfl,HX5.out,Bd HO5.out (by omega),(fun b o s e=>by have:=HOB.out b o s e;omega),(by omega),HR5.out,hB5⟩
 case rest =>
  obtain ⟨px,at_,qt,rfl,hX,hO,hne,hpx,hR,hB⟩:=hcut;clear HI0 HR0 hb0;have HX:=iH hX;have HO:=iH hO;have HNE:=iH hne;have HR:=iH hR;clear hX hO hne hR;generalize wc=w2 at *;generalize hnT0:(Al stP x.copies x.copies.length).length=nT at *;have HNT:=iH hnT0;clear hnT0;have k1:w2.cell? ⟨G.p,1,none⟩=some (.map (some G.ml)):=(HH.out.below hB).P.cell rfl;obtain ⟨nn,ff,hn1,hn2,hn3,hn4⟩:=(HH.out.below hB).ML;obtain ⟨DD,hown,hkp⟩:=hn2.keys (ns:=brN x) (eF HV.out.asc) (fun s=>⟨fun hm=>(by obtain ⟨b,hb,e⟩:=List.mem_map.1 hm;obtain ⟨i,hi⟩:=List.getElem?_of_mem hb;rw [← e,hn3 i b (Ad hi) hi];rfl),fun hs=>(by obtain ⟨i,b,_,h2,h3⟩:=hn4 s hs;exact List.mem_map.2 ⟨b,List.mem_of_getElem? h2,h3⟩)⟩);have hsz9:=hown.size_le;have HOM:=iH hown;have HKP:=iH hkp;clear hn2 hn3 hn4 hown hkp;go_wp2_with fail;refine (callsIn_wide.1 (Um (some G.ml) _)).mono ?_;rintro e w3 ⟨rfl,rfl⟩;go_wp2_with fail;refine (callsIn_wide.1 (Qa G.ml nn DD Hp w2 HOM.out (by unfold maxLen;omega) (by omega))).mono ?_;rintro e w4 ⟨v,ss,rfl,hSS,hrow,_,hb4⟩;rw [Kp (eF HV.out.asc) (hSS.trans HKP.out.symm),show ss.length=x.berths.length by rw [(hSS.trans HKP.out.symm).length_eq];simp [nmL,brN]] at hrow;have hba:Below w2.heap.size w2 (w2.alloc (.cells #[.map (some G.ml)] 103)):=(Below.refl _ _).alloc nL _;have hb5:Below w2.heap.size w2 w4:=hba.trans (hb4.mono hba.size);obtain ⟨aK,qK,rfl,_⟩:=Qv hrow;have HK:=iH (Bd hrow (by simp:w2.heap.size≤_));have HX4:=iH (HX.out.below hb5 HX.out.lt);have HO4:=iH (Ao HO.out hb5);have HR4:=iH (HR.out.below hb5 HR.out.lt);have hB4:=hB.trans (hb5.mono hB.size);have hpx2:px<w2.heap.size:=HX.out.lt;have hww2:=hB.size;have hw24:=hb5.size;clear k1 hrow hSS hba hb4 hb5 HOM HKP HX HO HR hB;go_upto_region 3 with fail;go_loopw [25] (fun v wr=>∃ (k:Nat) (ar:Option Addr) (qr:Nat),k≤x.berths.length∧v=.int .i64 (k:Int)∧Hid (Blk px #[.bool x.pack,.slice ar k qr,.slice none 0 0,.slice at_ nT qt] 32 wr)∧Hid (OwnRw w4.heap.size wr (.slice ar k qr) ((x.berths.map (Dl x)).take k))∧Hid (Sv [px] w4 wr)∧Hid (Below w.heap.size w wr)) (fun v _=>x.berths.length - (intOf v).toNat)
  case atStart=>exact ⟨0,none,0,Nat.zero_le _,rfl,HX4,RwG.nil,Sv.refl _ _,hB4⟩
  case round =>
   clear HX4 hB4;obtain ⟨k,ar,qr,hk,rfl,HX,HRW,HSV,HB⟩:=hrel;by_cases hlt:k<x.berths.length
   case neg =>
    have hke:k=x.berths.length:=by omega
    subst hke;rw [List.take_of_length_le (by rw [List.length_map];exact Nat.le_refl _)] at HRW;have hB:=HB.out;have HO5:=iH (Tn HO4.out HSV.out (by intro e;cases e9:at_ with | none=>rw [e9] at e;cases e | some ad=>obtain ⟨b9,o9,s9⟩:=ad;rw [e9] at e;exact (HNE.out b9 o9 s9 e9).1 (Option.some.inj e)));have HR5:=iH (HR4.out.sv HSV.out (by simp;omega));have HTB:Hid (∀ b o s,at_=some ⟨b,o,s⟩→b<w4.heap.size):=Oo HO4.out;have hw4r:w4.heap.size≤wr.heap.size:=HSV.out.1;have hznl:=Iu x.berths x.berths.length;clear HB HSV hlt hk HO4 HR4 HK;have k1:wr.cell? ⟨G.p,2,none⟩=some (.map (some G.mz)):=(HH.out.below hB).P.cell rfl;obtain ⟨nn,ff,hn1,hn2,hn3,hn4⟩:=(HH.out.below hB).MZ;obtain ⟨DD,hown,hkp⟩:=hn2.keys (ns:=(Ah x.berths x.berths.length)) (Gf _ _) (fun s=>⟨fun hm=>(by rw [hn3 s hm];rfl),fun hs=>hn4 s hs⟩);have hsz9:=hown.size_le;have HOM:=iH hown;have HKP:=iH hkp;clear hn2 hn3 hn4 hown hkp;go_wp2_with fail;refine (callsIn_wide.1 (Yt (some G.mz) _)).mono ?_;rintro e w7 ⟨rfl,rfl⟩;go_wp2_with fail;refine (callsIn_wide.1 (Tf G.mz nn DD Hp wr HOM.out (by unfold maxLen;omega) (by omega))).mono ?_;rintro e wk ⟨v,ss,rfl,hSS,hrow,_,hb4⟩;rw [Kp (Gf _ _) (hSS.trans HKP.out.symm),show ss.length=(Ah x.berths x.berths.length).length by rw [(hSS.trans HKP.out.symm).length_eq];simp [nmL]] at hrow;have hba:Below wr.heap.size wr (wr.alloc (.cells #[.map (some G.mz)] 104)):=(Below.refl _ _).alloc nL _;have hb5:Below wr.heap.size wr wk:=hba.trans (hb4.mono hba.size);obtain ⟨aK,qK,rfl,_⟩:=Qv hrow;have HK:=iH (Bd hrow (by simp:wr.heap.size≤_));have HX6:Hid (Blk px #[.bool x.pack,.slice ar x.berths.length qr,.slice none 0 0,.slice at_ nT qt] 32 wk):=HX.out.below hb5 HX.out.lt;have HO6:=iH (Ao HO5.out hb5);have HR6:=iH (HR5.out.below hb5 HR5.out.lt);have HRW6:=iH (HRW.out.below hb5);have hB6:=hB.trans (hb5.mono hB.size);have hwk:=hb5.size;clear k1 hrow hSS hba hb4 hb5 HOM HKP HX HO5 HR5 HRW hB;generalize hnz0:(Ah x.berths x.berths.length).length=nz at *;have HNZ:=iH hnz0;clear hnz0;go_upto_region 8 with fail;go_loopw [49] (fun v wr=>∃ (k:Nat) (az:Option Addr) (qz:Nat),k≤nz∧v=.int .i64 (k:Int)∧Hid (Blk px #[.bool x.pack,.slice ar x.berths.length qr,.slice az k qz,.slice at_ nT qt] 32 wr)∧Hid (OwnZn wk.heap.size wr (.slice az k qz) ((((Ah x.berths x.berths.length).map (znM x))).take k))∧Hid (Sv [px] wk wr)∧Hid (Below w.heap.size w wr)) (fun v _=>nz - (intOf v).toNat)
    case atStart=>exact ⟨0,none,0,Nat.zero_le _,rfl,HX6,RwG.nil,Sv.refl _ _,hB6⟩
    case round =>
     clear HX6 hB6;obtain ⟨k,az,qz,hk,rfl,HX,HZW,HSV,HB⟩:=hrel;by_cases hlt:k<nz
     case neg =>
      have hke:nz=k:=by omega
      subst hke;rw [List.take_of_length_le (by rw [List.length_map];exact Nat.le_of_eq HNZ.out)] at HZW;have HRr:=iH (HR6.out.sv HSV.out (by simp;omega));obtain ⟨w9,hw9⟩:∃ w9,w9=wr.setCells w.heap.size 0 #[.bool x.pack,.slice ar x.berths.length qr,.slice az nz qz,.slice at_ nT qt].toList:=⟨_,rfl⟩;have hg9:wr.grownBy w9 (some w.heap.size):=by rw [hw9];exact Ch _ _ _
      have HR9:Hid (Blk w.heap.size #[.bool x.pack,.slice ar x.berths.length qr,.slice az nz qz,.slice at_ nT qt] 32 w9):=by rw [hw9];exact HRr.out.setAll _ rfl
      have HB9:Hid (Below w.heap.size w w9):=by rw [hw9];exact Ai nL _ _ _ HB.out
      have HZ9:=iH (HZW.out.kept hg9 (fun r hr=>by cases hr;omega));have HO9:=iH ((Tn HO6.out HSV.out (by intro e;cases e9:at_ with | none=>rw [e9] at e;cases e | some ad=>obtain ⟨b9,o9,s9⟩:=ad;rw [e9] at e;exact (HNE.out b9 o9 s9 e9).1 (Option.some.inj e))).kept hg9 (by cases e9:at_ with | none=>exact .inl rfl | some ad=>exact .inr (fun e8=>by obtain ⟨b9,o9,s9⟩:=ad;have:=(HNE.out b9 o9 s9 e9).2;have e7:b9=w.heap.size:=Option.some.inj e8;omega)));have HKK:Hid (∀ b,w4.heap.size≤b→b<wk.heap.size→w9.heap[b]?=wk.heap[b]?):=fun b h1 h2=>(hg9.block b (Nat.lt_of_lt_of_le h2 HSV.out.1) (fun e=>by have:=Option.some.inj e;omega)).trans (HSV.out.2 b h2 (by simp;omega))
      have HW9:=iH hw9;clear hw9 hg9 HZW HSV HB HO6 HR6;go_wp2_with (first | (refine wpList_load_mid rfl 32 _ rfl px 0 rfl [.bool x.pack,.slice ar x.berths.length qr,.slice az nz qz,.slice at_ nT qt] _ HX.out.rangeA Tryz.underlying32 rfl Gb ?_) | (refine Ap rfl 32 _ _ rfl w.heap.size 0 #[.bool x.pack,.slice ar x.berths.length qr,.slice az nz qz,.slice at_ nT qt] rfl rfl HRr.out.there Gb (by simp [Value.oneCell']) w9 HW9.out ?_));refine bodyPost_ret (Aw rfl _ _ w.heap.size [.bool x.pack,.slice ar x.berths.length qr,.slice az nz qz,.slice at_ nT qt] _ rfl HR9.out.rangeA Tryz.underlying32 rfl Gb) rfl ?_;have e9:=HNT.out;have e8:=HNZ.out;clear HX HR9 HW9 HRr;subst e9;subst e8;exact ⟨at_,qt,ar,qr,az,qz,w4.heap.size,wk,rfl,HO9.out,HTB.out,HRW6.out,HKK.out,HZ9.out,by omega,by omega,HB9.out⟩
     obtain ⟨z,hzk⟩:∃ z,(Ah x.berths x.berths.length)[k]?=some z:=⟨(Ah x.berths x.berths.length)[k]'(by have:=HNZ.out;omega),List.getElem?_eq_getElem _⟩;have hzm:=List.mem_of_getElem? hzk;have hz20:z.size≤20:=by obtain ⟨i9,b9,_,h2,h3⟩:=(Hi _).1 hzm;rw [← h3];exact (HV.out.bn i9 b9 h2).2.1
     have HKr:=iH (Tn HK.out HSV.out (by have h9:=HK.out;intro e;have:=Dh h9 px e;omega));obtain ⟨gK,rfl⟩:=aB HKr.out (by omega);have kc:wr.cell? ⟨gK,k,none⟩=some (.string z):=by
      have h9:=HKr.out.cellAt k (by omega);rw [h9];unfold nmL;rw [List.getElem?_map,List.getElem?_map,hzk];show some (Value.string ⟨z.toList.toArray⟩)=_
      rw [Sm]
     have i0:(0:Int)≤(k:Int):=by omega
     have i1:(k:Int)<(nz:Int):=by omega
     have HZZ:=iH hzk;have HZM:=iH hzm;clear hzk hzm HKr;go_upto_region 10 with fail;clear kc i0 i1;have HId:=iH (HH.out.below HB.out).drew;have HXd:=iH HX.out.drew;have HRWd:Hid (OwnZn wk.heap.size wr.drew (.slice az k qz) ((((Ah x.berths x.berths.length).map (znM x))).take k)):=HZW.out.drew;have hSVd:=HSV.out.drew;have hBd:=HB.out.drew;refine Bi (S:=fun wy=>wr.drew.grownBy wy (Value.slice az k qz).ownBlock) 15 (by kernel_rfl) (Cc (Below.refl _ _)) (fun hS=>?_);clear HX HZW HSV HB;generalize wr.drew=wd at *;have hwd:wk.heap.size≤wd.heap.size:=hSVd.1;obtain ⟨cs,SS,tg,hr1,hr2⟩:=HRWd.out;have HR2:=iH hr2;have hlen:((((Ah x.berths x.berths.length).map (znM x))).take k).length=k:=by rw [List.length_take,List.length_map];have:=HNZ.out;omega
     rw [hlen] at hr1;have HR1:=iH hr1;clear hr1 hr2;have hpv:∀ b9,(Value.slice az k qz).ownBlock=some b9→wk.heap.size≤b9:=Dh HR1.out;obtain ⟨nn2,ff2,hm1,hm2,hm3,_⟩:=HId.out.MZ;have yl:∀ wy,wd.grownBy wy (Value.slice az k qz).ownBlock→(Instr.lookup 104 (.map (some G.mz)) (.string z) false).run Tryz.prog wy=.ok (.map (some (G.Z z))) wy:=by
      intro wy hwy;have h9:=(hm2.heap (hwy.block _ hm2.lt (fun e=>by have:=hpv G.mz e.symm;have:=HMZ0.out;omega))).look Tryz.underlying104 (dN wy) (s:=z) (by unfold maxLen;omega);rw [hm3 z HZM.out] at h9;exact h9
     clear hm1 hm2 hm3;obtain ⟨mT,hmT,hMT⟩:=HId.out.TZ z HZM.out;have HMT:=iH hMT;clear hMT;have hcl:=HCL.out (inZ x z);refine tv 0 ⟨some 53,_,_,_,_,none⟩ (.pointer (some ⟨px,2,none⟩)) rfl (by rfl) ?_ hS ?_
     ·intro wy hy
      clear hy;go_simp
     simp only [pA,pB,pC,pD];refine tv 1 ⟨some 54,_,_,_,_,none⟩ (.slice az k qz) rfl (by rfl) ?_ hS ?_
     ·intro wy hy
      have h0:wy.cell? ⟨px,2,none⟩=some (.slice az k qz):=((HXd.out.grown hy (fun e=>by have:=hpv px e.symm;omega))).cell rfl;clear hy;go_simp
     simp only [pA,pB,pC,pD];refine tv 2 ⟨some 55,_,_,_,_,none⟩ (.string z) rfl (by rfl) ?_ hS ?_
     ·intro wy hy
      clear hy;go_simp
     simp only [pA,pB,pC,pD];refine tv 4 ⟨some 57,_,_,_,_,none⟩ (.pointer (some ⟨G.p,0,none⟩)) rfl (by rfl) ?_ hS ?_
     ·intro wy hy
      clear hy;go_simp
     simp only [pA,pB,pC,pD];refine tv 5 ⟨some 58,_,_,_,_,none⟩ (.pointer (some ⟨G.p,0,none⟩)) rfl (by rfl) ?_ hS ?_
     ·intro wy hy
      clear hy;go_simp
     simp only [pA,pB,pC,pD];refine tv 6 ⟨some 59,_,_,_,_,none⟩ (.pointer (some ⟨G.p,2,none⟩)) rfl (by rfl) ?_ hS ?_
     ·intro wy hy
      clear hy;go_simp
     simp only [pA,pB,pC,pD];refine tv 7 ⟨some 60,_,_,_,_,none⟩ (.map (some G.mz)) rfl (by rfl) ?_ hS ?_
     ·intro wy hy
      have h0:wy.cell? ⟨G.p,2,none⟩=some (.map (some G.mz)):=((HId.out.P.grown hy (fun e=>by have:=hpv G.p e.symm;omega))).cell rfl;clear hy;go_simp
     simp only [pA,pB,pC,pD];refine tv 8 ⟨some 61,_,_,_,_,none⟩ (.string z) rfl (by rfl) ?_ hS ?_
     ·intro wy hy
      clear hy;go_simp
     simp only [pA,pB,pC,pD];refine tv 9 ⟨some 62,_,_,_,_,none⟩ (.map (some (G.Z z))) rfl (by rfl) ?_ hS ?_
     ·intro wy hy
      have h0:=yl wy hy;clear hy
      first | (go_simp;done) | (simp [go_sem,h0];done) | (go_simp;rw [h0];done) | (go_simp;rw [h0];rfl)
     simp only [pA,pB,pC,pD];refine ru1 3 ⟨some 56,_,_,_,_,none⟩ rfl (fun KK hKK=>?_);go_simp;refine (Js z wd (by omega)).mono ?_;rintro e w5 ⟨rfl,hb5⟩;refine hKK.out _ _ (Cc hb5) (fun hS=>?_);clear hKK KK yl;have hw5:=hb5.size;refine ru1 10 ⟨some 63,_,_,_,_,none⟩ rfl (fun KK hKK=>?_);go_simp;refine (Hr (Al (inZ x z) x.copies x.copies.length) (G.Z z) mT w5 (HMT.out.below hb5) (by omega) (Dx _ _ _) (HSM.out _) (by omega)).mono ?_;rintro e w6 ⟨a2,q2,rfl,hO2,hb6a⟩;have hb6:Below wd.heap.size wd w6:=hb5.trans (hb6a.mono hw5);refine hKK.out _ _ (Cc hb6) (fun hS=>?_);clear hKK KK;have HO2:=iH (Bd hO2 hw5);have hw6:=hb6.size;clear hO2 hb6a;generalize hc20:(Al (inZ x z) x.copies x.copies.length).length=n2 at *;have HC2:=iH hc20;clear hc20;refine tv 11 ⟨some 64,_,_,_,_,none⟩ (.agg #[.string z,.slice a2 n2 q2]) rfl (by rfl) ?_ hS ?_
     ·intro wy hy
      clear hy
      first | (simp [go_sem];done) | (go_simp;done)
     simp only [pA,pB,pC,pD];refine ru1 12 ⟨some 65,_,_,_,_,none⟩ rfl (fun KK hKK=>?_);simp [go_sem];have hb7:Below w6.heap.size w6 (w6.alloc (Obj.cells #[.string z,.slice a2 n2 q2] 95)):=(Below.refl _ _).alloc nL _;have HN7:=iH (Blk.alloc w6 #[.string z,.slice a2 n2 q2] 95);refine hKK.out _ _ (Cc (hb6.trans (hb7.mono hw6))) (fun hS=>?_);clear hKK KK;have hbd7:Below wd.heap.size wd (w6.alloc (Obj.cells #[.string z,.slice a2 n2 q2] 95)):=hb6.trans (hb7.mono hw6);have HO2b:=iH (Ao HO2.out hb7);have hw7:=hb7.size;generalize w6.alloc (Obj.cells #[.string z,.slice a2 n2 q2] 95)=w7 at *;generalize w6.heap.size=tb at *;obtain ⟨i0,hi,hz0,hz1,hz2⟩:=info_parts iY;refine ru1 13 ⟨some 66,_,_,_,_,none⟩ rfl (fun KK hKK=>?_);rw [if_pos (by rfl)];refine Bj (.tmp 54) (.tmp 65) 29 (by rfl) wk.heap.size 95 i0 _ 2 40 Tryz.underlying29 hi hz0 hz1 hz2 rfl (by decide) (.slice az k qz) k cs (by rfl) (Ao HR1.out hbd7) ⟨tb,0,none⟩ 1 1 [.string z,.slice a2 n2 q2] (by rfl) rfl (jV HN7.out) (by intro u hu;simp only [List.mem_cons,List.not_mem_nil,or_false] at hu;rcases hu with rfl | rfl <;> rfl) (by unfold maxLen;omega) (by omega) (by omega) ?_;intro v8 w8 hown8 hgrow8 hnil8 hblk8;have hv8:v8≠.slice none 0 0:=fun e=>by have h9:=(hnil8.1 e).2;cases h9
     obtain ⟨e8,f8,rfl⟩:=Dd hown8 hv8;have HOW:Hid (OwnZn wk.heap.size w8 (.slice (some ⟨e8,0,none⟩) (k+1) f8) (((((Ah x.berths x.berths.length).map (znM x))).take k)++[znM x z])):=by
      have h1:wd.ownsRow wk.heap.size 95 2 (.slice az k qz) ((((Ah x.berths x.berths.length).map (znM x))).take k).length cs:=by rw [hlen];exact HR1.out
      refine RwK.snoc (T:=95) h1 HR2.out hbd7 (by omega) Zk (ss:=[.slice a2 n2 q2]) rfl (Nat.le_succ 1) (fun t s q ht hq=>?_) (fun s s2 bb e0 e1 e2 e3=>by cases e1) (by rw [hlen];exact hown8) hgrow8 hblk8
      ·rcases (by have:=Ad ht;simp at this;omega:t=0) with rfl
       cases ht;cases hq;show World.ownsRow _ _ _ _ _ (Al (inZ x z) x.copies x.copies.length).length _;rw [HC2.out];exact HO2b.out
     have HX8:=iH (HXd.out.below hbd7 HXd.out.lt);have HX9:=iH (HX8.out.grown hgrow8 (fun e=>by have:=hpv px e.symm;omega));have hS8:Hid (∀ b9,b9<wk.heap.size→b9≠px→w8.heap[b9]?=wk.heap[b9]?):=fun b9 h1 h2=>(hgrow8.block b9 (by omega) (fun e=>by have:=hpv b9 e.symm;omega)).trans ((hbd7.block b9 (by omega)).trans (hSVd.2 b9 h1 (by simpa using h2)))
     have hB8:Below w.heap.size w w8:=(hBd.trans (hbd7.mono hBd.size)).grown hgrow8 (by have:=hBd.size;omega) (fun j hj=>by have:=hpv j hj;omega);have hw8:=hgrow8.size;refine hKK.out _ _ ((Cc hbd7).trans hgrow8) (fun hS=>?_);clear hKK KK hown8 hgrow8 hnil8 hblk8 hv8;refine tv 14 ⟨some 67,_,_,_,_,none⟩ (.pointer (some ⟨px,2,none⟩)) rfl (by rfl) ?_ hS ?_
     ·intro wy hy
      clear hy;go_simp
     simp only [pA,pB,pC,pD];have cz:=HX9.out.cell (o:=2) rfl;have fz:=HX9.out.frozen 2;refine Bb (rs:=[15]) (by kernel_rfl) (by simp) (AllReadyU.last (o:=⟨none,_,_,_,_,none⟩) rfl (fun KK hKK=>?_));go_simp;clear cz fz;have HXf:Hid (Blk px #[.bool x.pack,.slice ar x.berths.length qr,.slice (some ⟨e8,0,none⟩) (k+1) f8,.slice at_ nT qt] 32 (w8.setCell ⟨px,2,none⟩ (.slice (some ⟨e8,0,none⟩) (k+1) f8))):=HX9.out.set 2 _;have HRWf:Hid (OwnZn wk.heap.size (w8.setCell ⟨px,2,none⟩ (.slice (some ⟨e8,0,none⟩) (k+1) f8)) (.slice (some ⟨e8,0,none⟩) (k+1) f8) ((((Ah x.berths x.berths.length).map (znM x))).take (k+1))):=by
      have h9:=HOW.out.kept (Ci w8 ⟨px,2,none⟩ (.slice (some ⟨e8,0,none⟩) (k+1) f8)) (fun r hr=>by cases hr;show px<_;omega);rw [List.take_add_one,List.getElem?_map,HZZ.out];exact h9
     have HSf:Hid (Sv [px] wk (w8.setCell ⟨px,2,none⟩ (.slice (some ⟨e8,0,none⟩) (k+1) f8))):=⟨by simp [World.setCell];omega,fun b9 h1 h2=>(Below.heap_setCell w8 ⟨px,2,none⟩ (.slice (some ⟨e8,0,none⟩) (k+1) f8) b9 (by simpa using h2)).trans (hS8.out b9 h1 (by simpa using h2))⟩;have HBf:Hid (Below w.heap.size w (w8.setCell ⟨px,2,none⟩ (.slice (some ⟨e8,0,none⟩) (k+1) f8))):=Bf hB8 (by omega) 2 (.slice (some ⟨e8,0,none⟩) (k+1) f8);refine hKK.out _ _ (Bp (by kernel_rfl) ?_ _);clear hKK KK hS;generalize (w8.setCell ⟨px,2,none⟩ (.slice (some ⟨e8,0,none⟩) (k+1) f8))=w9 at *;go_wp2_with fail;go_roundw
     case rel=>exact ⟨k+1,some ⟨e8,0,none⟩,f8,by omega,by go_num,HXf,HRWf,HSf,HBf⟩
     case measure=>simp [intOf];omega
   obtain ⟨b,hb⟩:∃ b,x.berths[k]?=some b:=⟨x.berths[k],List.getElem?_eq_getElem hlt⟩;have HKr:=iH (Tn HK.out HSV.out (by have h9:=HK.out;intro e;have:=Dh h9 px e;omega));obtain ⟨gK,rfl⟩:=aB HKr.out (by omega);have kc:wr.cell? ⟨gK,k,none⟩=some (.string b.name):=by
    have h9:=HKr.out.cellAt k (by omega);rw [h9];unfold nmL brN;rw [List.getElem?_map,List.getElem?_map,List.getElem?_map,hb];show some (Value.string ⟨b.name.toList.toArray⟩)=_
    rw [Sm]
   have i0:(0:Int)≤(k:Int):=by omega
   have i1:(k:Int)<(x.berths.length:Int):=by omega
   have HBB:=iH hb;have hbn:=HV.out.bn k b hb;clear hb HKr;go_upto_region 5 with fail;clear kc i0 i1;have HId:=iH (HH.out.below HB.out).drew;have HXd:=iH HX.out.drew;have HRWd:Hid (OwnRw w4.heap.size wr.drew (.slice ar k qr) ((x.berths.map (Dl x)).take k)):=HRW.out.drew;have hSVd:=HSV.out.drew;have hBd:=HB.out.drew;refine Bi (S:=fun wy=>wr.drew.grownBy wy (Value.slice ar k qr).ownBlock) 12 (by kernel_rfl) (Cc (Below.refl _ _)) (fun hS=>?_);clear HX HRW HSV HB;generalize wr.drew=wd at *;have hwd:w4.heap.size≤wd.heap.size:=hSVd.1;obtain ⟨cs,SS,tg,hr1,hr2⟩:=HRWd.out;have HR2:=iH hr2;have hlen:((x.berths.map (Dl x)).take k).length=k:=by rw [List.length_take,List.length_map];omega
   rw [hlen] at hr1;have HR1:=iH hr1;clear hr1 hr2;have hpv:∀ b9,(Value.slice ar k qr).ownBlock=some b9→w4.heap.size≤b9:=Dh HR1.out;obtain ⟨nn2,ff2,hm1,hm2,hm3,_⟩:=HId.out.ML;have yl:∀ wy,wd.grownBy wy (Value.slice ar k qr).ownBlock→(Instr.lookup 103 (.map (some G.ml)) (.string b.name) false).run Tryz.prog wy=.ok (.pointer (some ⟨G.L k,0,none⟩)) wy:=by
    intro wy hwy;have h9:=(hm2.heap (hwy.block _ hm2.lt (fun e=>by have:=hpv G.ml e.symm;have:=HML0.out;omega))).look Tryz.underlying103 (cT wy) (s:=b.name) (by unfold maxLen;omega);rw [hm3 k b (Ad HBB.out) HBB.out] at h9;exact h9
   clear hm1 hm2 hm3;obtain ⟨am,cm,hLn,hsl⟩:=HId.out.LN k b (Ad HBB.out) HBB.out;obtain ⟨mT,hmT,hMT⟩:=HId.out.TL k b (Ad HBB.out) HBB.out;have HLn:=iH hLn;have HSL:=iH (hsl.below StrC.holds HId.out.hB nL);have HMT:=iH hMT;clear hLn hsl hMT;obtain ⟨U,hU⟩:∃ U,U=Aq x.copies b.name (-1) x.copies.length:=⟨_,rfl⟩;rw [← hU] at HLn;have HU:=iH hU;clear hU;have hcl:=HCL.out (onB b.name);refine tv 0 ⟨some 29,_,_,_,_,none⟩ (.pointer (some ⟨px,1,none⟩)) rfl (by rfl) ?_ hS ?_
   ·intro wy hy
    clear hy;go_simp
   simp only [pA,pB,pC,pD];refine tv 1 ⟨some 30,_,_,_,_,none⟩ (.slice ar k qr) rfl (by rfl) ?_ hS ?_
   ·intro wy hy
    have h0:wy.cell? ⟨px,1,none⟩=some (.slice ar k qr):=((HXd.out.grown hy (fun e=>by have:=hpv px e.symm;omega))).cell rfl;clear hy;go_simp
   simp only [pA,pB,pC,pD];refine tv 2 ⟨some 31,_,_,_,_,none⟩ (.pointer (some ⟨G.p,0,none⟩)) rfl (by rfl) ?_ hS ?_
   ·intro wy hy
    clear hy;go_simp
   simp only [pA,pB,pC,pD];refine tv 3 ⟨some 32,_,_,_,_,none⟩ (.pointer (some ⟨G.p,0,none⟩)) rfl (by rfl) ?_ hS ?_
   ·intro wy hy
    clear hy;go_simp
   simp only [pA,pB,pC,pD];refine tv 4 ⟨some 33,_,_,_,_,none⟩ (.pointer (some ⟨G.p,1,none⟩)) rfl (by rfl) ?_ hS ?_
   ·intro wy hy
    clear hy;go_simp
   simp only [pA,pB,pC,pD];refine tv 5 ⟨some 34,_,_,_,_,none⟩ (.map (some G.ml)) rfl (by rfl) ?_ hS ?_
   ·intro wy hy
    have h0:wy.cell? ⟨G.p,1,none⟩=some (.map (some G.ml)):=((HId.out.P.grown hy (fun e=>by have:=hpv G.p e.symm;omega))).cell rfl;clear hy;go_simp
   simp only [pA,pB,pC,pD];refine tv 6 ⟨some 35,_,_,_,_,none⟩ (.string b.name) rfl (by rfl) ?_ hS ?_
   ·intro wy hy
    clear hy;go_simp
   simp only [pA,pB,pC,pD];refine tv 7 ⟨some 36,_,_,_,_,none⟩ (.pointer (some ⟨(G.L k),0,none⟩)) rfl (by rfl) ?_ hS ?_
   ·intro wy hy
    have h0:=yl wy hy;clear hy
    first | (go_simp;done) | (simp [go_sem,h0];done) | (go_simp;rw [h0];done) | (go_simp;rw [h0];rfl)
   simp only [pA,pB,pC,pD];refine ru1 8 ⟨some 37,_,_,_,_,none⟩ rfl (fun KK hKK=>?_);go_simp;refine (jJ b (b.room - U.2.1) (b.hold - U.2.2) U.1 am cm lo (G.L k) (G.T k) mT (Al (onB b.name) x.copies x.copies.length) wd HLn.out HSL.out (by omega) (dR hbn.2.2.2.2.2) (by omega) (by omega) HMT.out (by omega) (Dx _ _ _) (HSM.out _) (by omega)).mono ?_;rintro e w6 ⟨g1,q1,a2,q2,BB,rfl,hO1,hg1,hBB,hO2,hb6⟩;refine hKK.out _ _ (Cc hb6) (fun hS=>?_);clear hKK KK yl;have HO1:=iH hO1;have HG1:=iH hg1;have HO2:=iH hO2;have hw6:=hb6.size;clear hO1 hg1 hO2;refine ru1 9 ⟨some 38,_,_,_,_,none⟩ rfl (fun KK hKK=>?_);go_simp;have hb7:Below w6.heap.size w6 (w6.alloc (Obj.cells #[.string b.name,.string b.zone,.slice g1 b.marks.length q1,.int .i64 b.room,.int .i64 b.hold,.bool b.closed,.int .i64 (b.room - U.2.1),.int .i64 (b.hold - U.2.2),.int .i64 U.1,.slice a2 (Al (onB b.name) x.copies x.copies.length).length q2] 92)):=(Below.refl _ _).alloc nL _;have HN7:=iH (Blk.alloc w6 #[.string b.name,.string b.zone,.slice g1 b.marks.length q1,.int .i64 b.room,.int .i64 b.hold,.bool b.closed,.int .i64 (b.room - U.2.1),.int .i64 (b.hold - U.2.2),.int .i64 U.1,.slice a2 (Al (onB b.name) x.copies x.copies.length).length q2] 92);refine hKK.out _ _ (Cc (hb6.trans (hb7.mono hw6))) (fun hS=>?_);clear hKK KK;have hbd7:Below wd.heap.size wd (w6.alloc (Obj.cells #[.string b.name,.string b.zone,.slice g1 b.marks.length q1,.int .i64 b.room,.int .i64 b.hold,.bool b.closed,.int .i64 (b.room - U.2.1),.int .i64 (b.hold - U.2.2),.int .i64 U.1,.slice a2 (Al (onB b.name) x.copies x.copies.length).length q2] 92)):=hb6.trans (hb7.mono hw6);have HO1b:=iH (Ao HO1.out hb7);have HO2b:=iH (Ao HO2.out hb7);have hw7:=hb7.size;generalize w6.alloc (Obj.cells #[.string b.name,.string b.zone,.slice g1 b.marks.length q1,.int .i64 b.room,.int .i64 b.hold,.bool b.closed,.int .i64 (b.room - U.2.1),.int .i64 (b.hold - U.2.2),.int .i64 U.1,.slice a2 (Al (onB b.name) x.copies x.copies.length).length q2] 92)=w7 at *;generalize w6.heap.size=tb at *;obtain ⟨i0,hi,hz0,hz1,hz2⟩:=info_parts iT;refine ru1 10 ⟨some 39,_,_,_,_,none⟩ rfl (fun KK hKK=>?_);rw [if_pos (by rfl)];refine Bj (.tmp 30) (.tmp 38) 28 (by rfl) w4.heap.size 92 i0 _ 10 128 Tryz.underlying28 hi hz0 hz1 hz2 rfl (by decide) (.slice ar k qr) k cs (by rfl) (Ao HR1.out hbd7) ⟨tb,0,none⟩ 1 1 [.string b.name,.string b.zone,.slice g1 b.marks.length q1,.int .i64 b.room,.int .i64 b.hold,.bool b.closed,.int .i64 (b.room - U.2.1),.int .i64 (b.hold - U.2.2),.int .i64 U.1,.slice a2 (Al (onB b.name) x.copies x.copies.length).length q2] (by rfl) rfl (jV HN7.out) (by intro u hu;simp only [List.mem_cons,List.not_mem_nil,or_false] at hu;rcases hu with rfl | rfl | rfl | rfl | rfl | rfl | rfl | rfl | rfl | rfl <;> rfl) (by unfold maxLen;omega) (by omega) (by omega) ?_;intro v8 w8 hown8 hgrow8 hnil8 hblk8;have hv8:v8≠.slice none 0 0:=fun e=>by have h9:=(hnil8.1 e).2;cases h9
   obtain ⟨e8,f8,rfl⟩:=Dd hown8 hv8;have HOW:Hid (OwnRw w4.heap.size w8 (.slice (some ⟨e8,0,none⟩) (k+1) f8) (((x.berths.map (Dl x)).take k)++[Dl x b])):=by
    have h1:wd.ownsRow w4.heap.size 92 10 (.slice ar k qr) ((x.berths.map (Dl x)).take k).length cs:=by rw [hlen];exact HR1.out
    refine RwK.snoc (T:=92) h1 HR2.out hbd7 (by omega) Nl (ss:=[.slice g1 b.marks.length q1,.slice a2 (Al (onB b.name) x.copies x.copies.length).length q2]) rfl (Nat.le_refl 2) (fun t s q ht hq=>?_) (fun s s2 bb e0 e1 e2 e3=>?_) (by rw [hlen];have h9:=hown8;rw [HU.out] at h9;exact h9) hgrow8 hblk8
    ·rcases (by have:=Ad ht;simp at this;omega:t=0∨t=1) with rfl | rfl
     ·cases ht;cases hq;exact HO1b.out
     ·cases ht;cases hq;exact Bd HO2b.out hBB
    ·cases e0;cases e1
     obtain ⟨p9,hp9⟩:∃ p9,g1=some p9:=by cases g1 with | none=>cases e2 | some p9=>exact ⟨p9,rfl⟩
     obtain ⟨b9,o9,s9⟩:=p9;have:=HG1.out b9 o9 s9 hp9;rw [hp9] at e2;have e4:b9=bb:=Option.some.inj e2;have:=Dh HO2b.out bb e3;omega
   have HX8:=iH (HXd.out.below hbd7 HXd.out.lt);have HX9:=iH (HX8.out.grown hgrow8 (fun e=>by have:=hpv px e.symm;omega));have hS8:Hid (∀ b9,b9<w4.heap.size→b9≠px→w8.heap[b9]?=w4.heap[b9]?):=fun b9 h1 h2=>(hgrow8.block b9 (by omega) (fun e=>by have:=hpv b9 e.symm;omega)).trans ((hbd7.block b9 (by omega)).trans (hSVd.2 b9 h1 (by simpa using h2)))
   have hB8:Below w.heap.size w w8:=(hBd.trans (hbd7.mono hBd.size)).grown hgrow8 (by have:=hBd.size;omega) (fun j hj=>by have:=hpv j hj;omega);have hw8:=hgrow8.size;refine hKK.out _ _ ((Cc hbd7).trans hgrow8) (fun hS=>?_);clear hKK KK hown8 hgrow8 hnil8 hblk8 hv8;refine tv 11 ⟨some 40,_,_,_,_,none⟩ (.pointer (some ⟨px,1,none⟩)) rfl (by rfl) ?_ hS ?_
   ·intro wy hy
    clear hy;go_simp
   simp only [pA,pB,pC,pD];have cz:=HX9.out.cell (o:=1) rfl;have fz:=HX9.out.frozen 1;refine Bb (rs:=[12]) (by kernel_rfl) (by simp) (AllReadyU.last (o:=⟨none,_,_,_,_,none⟩) rfl (fun KK hKK=>?_));go_simp;clear cz fz;have HXf:Hid (Blk px #[.bool x.pack,.slice (some ⟨e8,0,none⟩) (k+1) f8,.slice none 0 0,.slice at_ nT qt] 32 (w8.setCell ⟨px,1,none⟩ (.slice (some ⟨e8,0,none⟩) (k+1) f8))):=HX9.out.set 1 _;have HRWf:Hid (OwnRw w4.heap.size (w8.setCell ⟨px,1,none⟩ (.slice (some ⟨e8,0,none⟩) (k+1) f8)) (.slice (some ⟨e8,0,none⟩) (k+1) f8) ((x.berths.map (Dl x)).take (k+1))):=by
    have h9:=HOW.out.kept (Ci w8 ⟨px,1,none⟩ (.slice (some ⟨e8,0,none⟩) (k+1) f8)) (fun r hr=>by cases hr;show px<_;omega);rw [List.take_add_one,List.getElem?_map,HBB.out];exact h9
   have HSf:Hid (Sv [px] w4 (w8.setCell ⟨px,1,none⟩ (.slice (some ⟨e8,0,none⟩) (k+1) f8))):=⟨by simp [World.setCell];omega,fun b9 h1 h2=>(Below.heap_setCell w8 ⟨px,1,none⟩ (.slice (some ⟨e8,0,none⟩) (k+1) f8) b9 (by simpa using h2)).trans (hS8.out b9 h1 (by simpa using h2))⟩;have HBf:Hid (Below w.heap.size w (w8.setCell ⟨px,1,none⟩ (.slice (some ⟨e8,0,none⟩) (k+1) f8))):=Bf hB8 (by omega) 1 (.slice (some ⟨e8,0,none⟩) (k+1) f8);refine hKK.out _ _ (Bp (by kernel_rfl) ?_ _);clear hKK KK hS;generalize (w8.setCell ⟨px,1,none⟩ (.slice (some ⟨e8,0,none⟩) (k+1) f8))=w9 at *;go_wp2_with fail;go_roundw
   case rel=>exact ⟨k+1,some ⟨e8,0,none⟩,f8,by omega,by go_num,HXf,HRWf,HSf,HBf⟩
   case measure=>simp [intOf];omega
end Go.Proofs.YtpeajnkkdioflaaGreat
