import Derived.Test.YtpeajnkkdioflaaGreatSp8
import Derived.Test.YtpeajnkkdioflaaGreatSp3
import Derived.Test.YtpeajnkkdioflaaGreatAix
set_option maxHeartbeats 8000000
set_option maxRecDepth 100000
namespace Go.Proofs.YtpeajnkkdioflaaGreat
open Go.RowKit
def fO (x:Flt) (w:World) (e:Ending) (w':World):Bool→Prop
 | true=>aI x w e w'
 | false=>e=.returned (.agg #[.bool false,.slice none 0 0,.slice none 0 0,.slice none 0 0])∧Below w.heap.size w w'
theorem Nj (x:Flt) (a1:Option Addr) (c1:Nat) (a2:Option Addr) (c2:Nat) (a3:Option Addr) (c3:Nat) (lo:Nat) (w:World) (n1:SliceC BrtC 6 lo w a1 x.berths) (n2:SliceC SvcC 2 lo w a2 x.services) (n3:SliceC CpyC 12 lo w a3 x.copies)
  (l1:x.berths.length≤1048576) (l2:x.services.length≤1048576) (l3:x.copies.length≤1048576) (hw:Di x≤1048576) :
  Calls Tryz.prog 5 #[.agg #[.bool x.pack,.slice a1 x.berths.length c1,.slice a2 x.services.length c2,.slice a3 x.copies.length c3]] w fun e w'=>fO x w e w' (Ce x):=by
 have HN1:=iH n1;have HN2:=iH n2;have HN3:=iH n3;clear n1 n2 n3;have al:∀ (v:World) (ob:Obj),Below v.heap.size v (v.alloc ob):=fun v ob=>(Below.refl _ _).alloc nL _
 have HF0:=iH ((Blk.alloc w #[.bool x.pack,.slice a1 x.berths.length c1,.slice a2 x.services.length c2,.slice a3 x.copies.length c3] 38).below (al _ (Obj.cells #[.bool false,.slice none 0 0,.slice none 0 0,.slice none 0 0] 32)) (by simp));have HR0:=Blk.alloc (w.alloc (Obj.cells #[.bool x.pack,.slice a1 x.berths.length c1,.slice a2 x.services.length c2,.slice a3 x.copies.length c3] 38)) #[.bool false,.slice none 0 0,.slice none 0 0,.slice none 0 0] 32;rw [show (w.alloc (Obj.cells #[.bool x.pack,.slice a1 x.berths.length c1,.slice a2 x.services.length c2,.slice a3 x.copies.length c3] 38)).heap.size=w.heap.size+1 by simp] at HR0;replace HR0:=iH HR0;have hb0:Below w.heap.size w ((w.alloc (Obj.cells #[.bool x.pack,.slice a1 x.berths.length c1,.slice a2 x.services.length c2,.slice a3 x.copies.length c3] 38)).alloc (Obj.cells #[.bool false,.slice none 0 0,.slice none 0 0,.slice none 0 0] 32)):=((Below.refl _ _).alloc nL _).alloc (by simp) _;go_enter Tryz.func5,Tryz.ntmps5;go_upto_region 1 with fail;clear al;generalize ((w.alloc (Obj.cells #[.bool x.pack,.slice a1 x.berths.length c1,.slice a2 x.services.length c2,.slice a3 x.copies.length c3] 38)).alloc (Obj.cells #[.bool false,.slice none 0 0,.slice none 0 0,.slice none 0 0] 32))=w1 at *;go_wp2_with (refine wpList_load_mid rfl 38 _ rfl w.heap.size 0 rfl [.bool x.pack,.slice a1 x.berths.length c1,.slice a2 x.services.length c2,.slice a3 x.copies.length c3] _ HF0.out.rangeA Tryz.underlying38 rfl Dj ?_);refine (Pw x a1 c1 a2 c2 a3 c3 lo w1 (HN1.out.below BrtC.holds hb0 nL) (HN2.out.below SvcC.holds hb0 nL) (HN3.out.below CpyC.holds hb0 nL) l1 l2 l3).mono ?_;rintro e w2 ⟨rfl,hb⟩;rw [← fC x l3];have HF2:=iH (HF0.out.below hb HF0.out.lt);have HR2:=iH (HR0.out.below hb HR0.out.lt);have hb2:=hb0.trans (hb.mono hb0.size);clear HF0 HR0 hb hb0
 cases hvv:Ce x with
 | false =>
  obtain ⟨w3,hw3⟩:∃ w3,w3=w2.setCells (w.heap.size+1) 0 #[.bool false,.slice none 0 0,.slice none 0 0,.slice none 0 0].toList:=⟨_,rfl⟩;have HR3:Hid (Blk (w.heap.size+1) #[.bool false,.slice none 0 0,.slice none 0 0,.slice none 0 0] 32 w3):=by rw [hw3];exact HR2.out.setAll _ rfl
  have hb3:Below w.heap.size w w3:=by rw [hw3];exact Ai (by omega) _ _ _ hb2
  have HW3:=iH hw3;clear hw3;go_wp2_with (refine Ap rfl 32 _ _ rfl (w.heap.size+1) 0 #[.bool false,.slice none 0 0,.slice none 0 0,.slice none 0 0] rfl rfl HR2.out.there Hy (by simp [Value.oneCell']) w3 HW3.out ?_);refine bodyPost_ret (Aw rfl _ _ (w.heap.size+1) [.bool false,.slice none 0 0,.slice none 0 0,.slice none 0 0] _ rfl HR3.out.rangeA Tryz.underlying32 rfl Hy) rfl ?_;show fO x w _ _ (Ce x)
  rw [hvv];exact ⟨rfl,hb3⟩
 | true =>
  have hv:=VOk.of hvv hw;go_upto_region 3 with fail;go_wp2_with (refine wpList_load_mid rfl 38 _ rfl w.heap.size 0 rfl [.bool x.pack,.slice a1 x.berths.length c1,.slice a2 x.services.length c2,.slice a3 x.copies.length c3] _ HF2.out.rangeA Tryz.underlying38 rfl Dj ?_);refine (Wq x a1 c1 a2 c2 a3 c3 lo w2 (HN1.out.below BrtC.holds hb2 nL) (HN3.out.below CpyC.holds hb2 nL) hv).mono ?_;rintro e w4 ⟨ar,qr,az,qz,at_,qt,rfl,hs1,hs2,hs3,hb4⟩;have HR4:=iH (HR2.out.below hb4 HR2.out.lt);have hb5:=hb2.trans (hb4.mono hb2.size);have hl2:w.heap.size+1<w2.heap.size:=HR2.out.lt;obtain ⟨w6,hw6⟩:∃ w6,w6=w4.setCells (w.heap.size+1) 0 #[.bool x.pack,.slice ar x.berths.length qr,.slice az (Ah x.berths x.berths.length).length qz,.slice at_ (Al stP x.copies x.copies.length).length qt].toList:=⟨_,rfl⟩;have HR6:Hid (Blk (w.heap.size+1) #[.bool x.pack,.slice ar x.berths.length qr,.slice az (Ah x.berths x.berths.length).length qz,.slice at_ (Al stP x.copies x.copies.length).length qt] 32 w6):=by rw [hw6];exact HR4.out.setAll _ rfl
  have hb6:Below w.heap.size w w6:=by rw [hw6];exact Ai (by omega) _ _ _ hb5
  have HS1:Hid (SliceC RwpC 10 w.heap.size w6 ar (x.berths.map (Dl x))):=by rw [hw6];exact hs1.keep RwpC.holds (Keeps.setCells (by omega) _ _ _) (by omega)
  have HS2:Hid (SliceC ZnrC 2 w.heap.size w6 az ((Ah x.berths x.berths.length).map (znM x))):=by rw [hw6];exact hs2.keep ZnrC.holds (Keeps.setCells (by omega) _ _ _) (by omega)
  have HS3:Hid (SliceC CntC 4 w.heap.size w6 at_ (Al stP x.copies x.copies.length)):=by rw [hw6];exact hs3.keep CntC.holds (Keeps.setCells (by omega) _ _ _) (by omega)
  have HW6:=iH hw6;clear hw6 hs1 hs2 hs3 hb4;go_wp2_with (refine Ap rfl 32 _ _ rfl (w.heap.size+1) 0 #[.bool x.pack,.slice ar x.berths.length qr,.slice az (Ah x.berths x.berths.length).length qz,.slice at_ (Al stP x.copies x.copies.length).length qt] rfl rfl HR4.out.there Hy (by simp [Value.oneCell']) w6 HW6.out ?_);refine bodyPost_ret (Aw rfl _ _ (w.heap.size+1) [.bool x.pack,.slice ar x.berths.length qr,.slice az (Ah x.berths x.berths.length).length qz,.slice at_ (Al stP x.copies x.copies.length).length qt] _ rfl HR6.out.rangeA Tryz.underlying32 rfl Hy) rfl ?_;show fO x w _ _ (Ce x)
  rw [hvv];exact ⟨ar,qr,az,qz,at_,qt,rfl,HS1.out,HS2.out,HS3.out,hb6⟩
def Wu (x:Flt):Idx:=match Ce x with
 | true=>Lp x
 | false=>⟨false,[],[],[]⟩
theorem Yy {α:Type} {f:α→Nat} {B:Nat}:∀ {l:List α},(∀ x∈l,f x≤B)→wS f l≤l.length*(B+1)
 | [],_=>Nat.zero_le _
 | a::l,h=>by
  have h1:=Yy (l:=l) (fun x hx=>h x (List.mem_cons_of_mem _ hx));have h2:=h a (List.mem_cons_self ..);unfold wS at h1 ⊢;simp only [List.length_cons,List.map_cons,List.sum_cons,Nat.add_mul];omega
theorem VOk.cnt {x:Flt} (h:VOk x) (p:Cpy→Bool):(Al p x.copies x.copies.length).length≤60∧wS Vx (Al p x.copies x.copies.length)≤1260∧Rt (Al p x.copies x.copies.length) 1048576:=by
 have hs:∀ c∈x.copies,c.service.size≤20:=fun c hc=>by obtain ⟨k,hk⟩:=List.getElem?_of_mem hc;exact (h.cs k c hk).1
 have h1:(Al p x.copies x.copies.length).length≤60:=Nat.le_trans (Fh _ _ _) h.nc;have h2:∀ z∈Al p x.copies x.copies.length,Vx z≤20:=fun z hz=>(Ef hs h.nc z hz).1
 have h3:=Yy h2;have h4:(Al p x.copies x.copies.length).length*(20+1)≤60*(20+1):=Nat.mul_le_mul_right _ h1;exact ⟨h1,by omega,fun z hz=>Nat.le_trans (h2 z hz) (by omega)⟩
theorem VOk.zone {x:Flt} (h:VOk x):(Ah x.berths x.berths.length).length≤12∧∀ z∈Ah x.berths x.berths.length,z.size≤20:=by
 refine ⟨Nat.le_trans (Iu _ _) h.nb,fun z hz=>?_⟩;obtain ⟨j,b,_,hb,rfl⟩:=(Hi _).1 hz;exact (h.bn j b hb).2.1
theorem Ws {x:Flt} (h:VOk x) (hw:Di x≤1048576):SmI (Lp x):=by
 obtain ⟨z1,z2⟩:=h.zone;refine ⟨by show (x.berths.map _).length≤_;rw [List.length_map];have:=h.nb;omega,fun r hr=>?_,?_,?_⟩
 ·obtain ⟨b,hb,rfl⟩:=List.mem_map.1 (show r∈x.berths.map (Dl x) from hr)
  have h1:Bw b≤wS Bw x.berths:=Fo hb;exact ⟨by show Bw b≤_;unfold Di at hw;omega,Nat.le_trans (h.cnt _).2.1 (by omega)⟩
 ·show wS Wb ((Ah x.berths x.berths.length).map (znM x))≤_
  have h1:∀ z∈(Ah x.berths x.berths.length).map (znM x),Wb z≤1280:=fun z hz=>by
   obtain ⟨s,hs,rfl⟩:=List.mem_map.1 hz;have h2:=z2 s hs;have h3:=(h.cnt (inZ x s)).2.1;show s.size+wS Vx (Al (inZ x s) x.copies x.copies.length)≤_
   omega
  have h4:=Yy h1;rw [List.length_map] at h4;have h5:(Ah x.berths x.berths.length).length*(1280+1)≤12*(1280+1):=Nat.mul_le_mul_right _ z1;omega
 ·exact Nat.le_trans (h.cnt _).2.1 (by omega)
theorem Xg {x:Flt} (hw:Di x≤1048576):SmI (Wu x):=by
 unfold Wu
 cases e:Ce x with
 | true=>exact Ws (VOk.of e hw) hw
 | false=>exact ⟨Nat.zero_le _,(fun r hr=>by cases hr),Nat.zero_le _,Nat.zero_le _⟩
def IxS (y:Idx) (w:World) (e:Ending) (w':World):Prop:=∃ (d1:Option Addr) (r1:Nat) (d2:Option Addr) (r2:Nat) (d3:Option Addr) (r3:Nat),e=.returned (.agg #[.bool y.pack,.slice d1 y.rows.length r1,.slice d2 y.zones.length r2,.slice d3 y.total.length r3])∧SliceC RwpC 10 w.heap.size w' d1 y.rows∧SliceC ZnrC 2 w.heap.size w' d2 y.zones∧SliceC CntC 4 w.heap.size w' d3 y.total∧Below w.heap.size w w'
def IxA (y:Idx) (w:World) (e:Ending) (w':World):Prop:=∃ (d1:Option Addr) (r1:Nat) (d2:Option Addr) (r2:Nat) (d3:Option Addr) (r3 len:Nat),e=.returned (.agg #[.bool y.pack,.slice d1 y.rows.length r1,.slice d2 y.zones.length r2,.slice d3 y.total.length r3])∧1+len≤1073741824∧LA 11 12 (.agg #[.bool y.pack,.slice d1 y.rows.length r1,.slice d2 y.zones.length r2,.slice d3 y.total.length r3]) w' w.heap.size w'.heap.size len∧SliceC RwpC 10 w.heap.size w' d1 y.rows∧SliceC ZnrC 2 w.heap.size w' d2 y.zones∧SliceC CntC 4 w.heap.size w' d3 y.total∧Below w.heap.size w w'
theorem IxS.of {x:Flt} {w w':World} {e:Ending} (h:aI x w e w'):IxS (Lp x) w e w':=by
 obtain ⟨ar,qr,az,qz,at_,qt,rfl,h1,h2,h3,hb⟩:=h;exact ⟨ar,qr,az,qz,at_,qt,by simp only [Lp,List.length_map],h1,h2,h3,hb⟩
theorem RwG.bare {α:Type} {V:α→List Value→List Value} {sub:α→List Sb} {n:Nat} {T:TypeId} {base q:Nat} {w:World} {a:Option Addr} {l:List α} (h:RwG V sub n T base w (.slice a l.length q) l) (hb:w.heap.size≤base):l.length=0:=by
 obtain ⟨cs,S,tag,h1,_⟩:=h;rcases h1.2 with ⟨_,hn⟩ | ⟨g,cap,cur,hv,_⟩
 ·exact hn
 ·have e:a=some ⟨g,0,none⟩:=by injection hv
  subst e;have:=h1.lt g rfl;omega
theorem IxA.of {x:Flt} {w w':World} {e:Ending} (hv:VOk x) (h:gB x w e w'):IxA (Lp x) w e w':=by
 obtain ⟨at_,qt,ar,qr,az,qz,B2,wk,rfl,hO,hT,hRW,hKK,hZW,hB2,hBk,hb⟩:=h;have e1:x.berths.length=(x.berths.map (Dl x)).length:=(List.length_map ..).symm;have e2:(Ah x.berths x.berths.length).length=((Ah x.berths x.berths.length).map (znM x)).length:=(List.length_map ..).symm;obtain ⟨z1,z2⟩:=hv.zone;have hR:OwnRw B2 wk (.slice ar (x.berths.map (Dl x)).length qr) (x.berths.map (Dl x)):=by rw [← e1];exact hRW
 have hZ:OwnZn wk.heap.size w' (.slice az ((Ah x.berths x.berths.length).map (znM x)).length qz) ((Ah x.berths x.berths.length).map (znM x)):=by rw [← e2];exact hZW
 have n1:(x.berths.map (Dl x)).length≤12:=by rw [List.length_map];exact hv.nb
 have n2:((Ah x.berths x.berths.length).map (znM x)).length≤12:=by rw [List.length_map];exact z1
 have hcn:=fun p=>hv.cnt p
 have mR:∀ r∈x.berths.map (Dl x),(r.berth.name.size≤maxLen∧r.berth.zone.size≤maxLen)∧(r.berth.marks.length≤1048576∧Lb r.berth.marks maxLen)∧r.counts.length≤1048576∧Rt r.counts 1048576:=fun r hr=>by
  obtain ⟨b,hb,rfl⟩:=List.mem_map.1 hr;obtain ⟨k,hk⟩:=List.getElem?_of_mem hb;obtain ⟨⟨_,b1⟩,b2,_,_,b5,b6⟩:=hv.bn k b hk;have c1:=hcn (onB b.name);refine ⟨⟨?_,?_⟩,⟨b5,fun s hs=>?_⟩,?_,c1.2.2⟩
  ·show b.name.size≤maxLen;unfold maxLen;omega
  ·show b.zone.size≤maxLen;unfold maxLen;omega
  ·have:=Fo (f:=ByteArray.size) hs
   have h9:wS ByteArray.size (Dl x b).berth.marks≤1048576:=b6;unfold maxLen;omega
  ·exact Nat.le_trans c1.1 (by omega)
 have mZ:∀ r∈(Ah x.berths x.berths.length).map (znM x),r.name.size≤maxLen∧r.counts.length≤1048576∧Rt r.counts 1048576:=fun r hr=>by
  obtain ⟨s,hs,rfl⟩:=List.mem_map.1 hr;have c1:=hcn (inZ x s);refine ⟨?_,Nat.le_trans c1.1 (by omega),c1.2.2⟩;have:=z2 s hs;show s.size≤maxLen
  unfold maxLen;omega
 have kR:∀ r∈x.berths.map (Dl x),8+r.berth.marks.length+r.counts.length*4≤1048824:=fun r hr=>by
  obtain ⟨_,⟨h2,_⟩,_⟩:=mR r hr;obtain ⟨b,_,rfl⟩:=List.mem_map.1 hr;have c1:(Dl x b).counts.length≤60:=(hcn (onB b.name)).1;omega
 have kZ:∀ r∈(Ah x.berths x.berths.length).map (znM x),1+r.counts.length*4≤241:=fun r hr=>by
  obtain ⟨s,_,rfl⟩:=List.mem_map.1 hr;have c1:(znM x s).counts.length≤60:=(hcn (inZ x s)).1;omega
 obtain ⟨p1,k1,L1⟩:=lI hR (by omega) kR;obtain ⟨p2,k2,L2⟩:=lK hZ (by omega) kZ;have c3:=hcn stP;have k1':(x.berths.map (Dl x)).length*1048824≤12*1048824:=Nat.mul_le_mul_right _ n1;have k2':((Ah x.berths x.berths.length).map (znM x)).length*241≤12*241:=Nat.mul_le_mul_right _ n2;have hS1:=hR.slice mR (by unfold maxLen;omega);have hS2:=hZ.slice mZ (by unfold maxLen;omega);have hS3:=Iz hO (by omega) c3.2.2;have hsz:=hb.size;have hE:Ending.returned (.agg #[.bool x.pack,.slice ar x.berths.length qr,.slice az (Ah x.berths x.berths.length).length qz,.slice at_ (Al stP x.copies x.copies.length).length qt])=.returned (.agg #[.bool (Lp x).pack,.slice ar (Lp x).rows.length qr,.slice az (Lp x).zones.length qz,.slice at_ (Lp x).total.length qt]):=by simp only [Lp,List.length_map]
 by_cases hle:wk.heap.size≤w'.heap.size
 ·have hkp:KpI B2 wk.heap.size wk w':=⟨hle,fun b h1 h2 _ o=>⟨World.cell?_of_block (a:=⟨b,o,none⟩) (hKK b h1 h2),World.frozen?_of_block (a:=⟨b,o,none⟩) (hKK b h1 h2)⟩⟩
  refine ⟨ar,qr,az,qz,at_,qt,p1+p2+(Al stP x.copies x.copies.length).length*4,hE,by omega,LA.idx (B1:=w.heap.size) (B2:=B2) (B3:=wk.heap.size) ⟨_,_,_,rfl⟩ ⟨_,_,_,rfl⟩ ⟨_,_,_,rfl⟩ (L1.at hkp) L2 (LA.cnt hO hT) hB2 hBk hle nL,?_,?_,hS3,hb⟩
  ·exact hS1.keep RwpC.holds ⟨hle,fun b o h1 h2=>hkp.2 b h1 h2 h2 o⟩ hB2
  ·exact hS2.keep ZnrC.holds (Keeps.refl _ _) (by omega)
 ·have hq:B2=wk.heap.size:=by
   rcases Nat.lt_or_ge B2 wk.heap.size with h | h
   ·exfalso
    have h9:=hKK (wk.heap.size - 1) (by omega) (by omega);rw [show wk.heap[wk.heap.size - 1]?=some (wk.heap[wk.heap.size - 1]'(by omega)) from Array.getElem?_eq_getElem (by omega)] at h9;have:=(Array.getElem?_eq_some_iff.1 h9).1;omega
   ·omega
  have l1:=hR.bare (by omega);have l2:=hZ.bare (by omega);have r1:x.berths.map (Dl x)=[]:=List.length_eq_zero_iff.1 l1;have r2:(Ah x.berths x.berths.length).map (znM x)=[]:=List.length_eq_zero_iff.1 l2;have LL:LA 11 12 (.agg #[.bool (Lp x).pack,.slice ar (Lp x).rows.length qr,.slice az (Lp x).zones.length qz,.slice at_ (Lp x).total.length qt]) w' w.heap.size w'.heap.size (0+0+(Al stP x.copies x.copies.length).length*4):=by
   refine LA.idx (B1:=w.heap.size) (B2:=w'.heap.size) (B3:=w'.heap.size) ⟨_,_,_,rfl⟩ ⟨_,_,_,rfl⟩ ⟨_,_,_,rfl⟩ ?_ ?_ (LA.cnt hO (fun b o s e=>?_)) hsz nL nL nL
   ·show LA _ _ (.slice ar (x.berths.map (Dl x)).length qr) _ _ _ _
    rw [l1];exact LA.nilRwp _ _ _ _ _
   ·show LA _ _ (.slice az ((Ah x.berths x.berths.length).map (znM x)).length qz) _ _ _ _
    rw [l2];exact LA.nilZnr _ _ _ _ _
   ·subst e
    exact (hO.lt b rfl).2
  refine ⟨ar,qr,az,qz,at_,qt,_,hE,by omega,LL,?_,?_,hS3,hb⟩
  ·show SliceC _ _ _ _ _ (x.berths.map (Dl x))
   rw [r1];exact SliceC.nil
  ·show SliceC _ _ _ _ _ ((Ah x.berths x.berths.length).map (znM x))
   rw [r2];exact SliceC.nil
theorem lO (x:Flt) (a1:Option Addr) (c1:Nat) (a2:Option Addr) (c2:Nat) (a3:Option Addr) (c3:Nat) (lo:Nat) (w:World) (n1:SliceC BrtC 6 lo w a1 x.berths) (n2:SliceC SvcC 2 lo w a2 x.services) (n3:SliceC CpyC 12 lo w a3 x.copies)
  (l1:x.berths.length≤1048576) (l2:x.services.length≤1048576) (l3:x.copies.length≤1048576) (hw:Di x≤1048576) :
  Calls Tryz.prog 5 #[.agg #[.bool x.pack,.slice a1 x.berths.length c1,.slice a2 x.services.length c2,.slice a3 x.copies.length c3]] w (IxS (Wu x) w):=by
 refine (Nj x a1 c1 a2 c2 a3 c3 lo w n1 n2 n3 l1 l2 l3 hw).mono ?_;intro e w' h;unfold Wu
 cases hv:Ce x with
 | true=>rw [hv] at h;exact IxS.of h
 | false =>
  rw [hv] at h;obtain ⟨rfl,hb⟩:=h;exact ⟨none,0,none,0,none,0,rfl,SliceC.nil,SliceC.nil,SliceC.nil,hb⟩
theorem jM (x:Flt) (a1:Option Addr) (c1:Nat) (a2:Option Addr) (c2:Nat) (a3:Option Addr) (c3:Nat) (lo:Nat) (w:World) (n1:SliceC BrtC 6 lo w a1 x.berths) (n2:SliceC SvcC 2 lo w a2 x.services) (n3:SliceC CpyC 12 lo w a3 x.copies)
  (l1:x.berths.length≤1048576) (l2:x.services.length≤1048576) (l3:x.copies.length≤1048576) (hw:Di x≤1048576) :
  Calls Tryz.prog 7 #[.agg #[.bool x.pack,.slice a1 x.berths.length c1,.slice a2 x.services.length c2,.slice a3 x.copies.length c3]] w (IxA (Wu x) w):=by
 refine (Ni x a1 c1 a2 c2 a3 c3 lo w n1 n2 n3 l1 l2 l3 hw).mono ?_;intro e w' h;unfold Wu
 cases hv:Ce x with
 | true=>rw [hv] at h;exact IxA.of (VOk.of hv hw) h
 | false =>
  rw [hv] at h;obtain ⟨rfl,hb⟩:=h;exact ⟨none,0,none,0,none,0,0+0+0,rfl,by omega,LA.idx (B1:=w.heap.size) (B2:=w.heap.size) (B3:=w.heap.size) ⟨_,_,_,rfl⟩ ⟨_,_,_,rfl⟩ ⟨_,_,_,rfl⟩ (LA.nilRwp _ _ _ _ _) (LA.nilZnr _ _ _ _ _) (LA.nilCnt _ _ _ _ _) nL nL hb.size nL,SliceC.nil,SliceC.nil,SliceC.nil,hb⟩
end Go.Proofs.YtpeajnkkdioflaaGreat
