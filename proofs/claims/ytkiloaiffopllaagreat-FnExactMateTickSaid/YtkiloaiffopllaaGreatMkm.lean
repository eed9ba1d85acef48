import Derived.Test.YtkiloaiffopllaaGreatJ48
import Derived.Test.YtkiloaiffopllaaGreatMw4
set_option maxHeartbeats 4000000
namespace Go.Proofs.YtkiloaiffopllaaGreat
set_option maxRecDepth 100000
open Go.RowKit
def Er (w:World) (h:Nat):World:={ w with heap:=w.heap.take h }
theorem Dr {w:World} {h:Nat} (hl:h≤w.heap.size):(Er w h).heap.size=h:=by
 show (w.heap.take h).size=h
 simp;omega
theorem Yn {w:World} {h k:Nat} (hk:k<h):(Er w h).heap[k]?=w.heap[k]?:=by
 show (w.heap.extract 0 h)[k]?=w.heap[k]?
 rw [Array.getElem?_extract]
 split
 ·simp
 ·rename_i hn
  rw [Array.getElem?_eq_none (by omega)]
theorem Ap {w:World} {h:Nat} (hl:h≤w.heap.size):Below (Er w h).heap.size (Er w h) w where
 os:=rfl
 tape:=rfl
 output:=rfl
 size:=by rw [Dr hl];exact hl
 block:=fun k hk=>by rw [Dr hl] at hk;exact (Yn hk).symm
theorem Mkd.keeps {lo h:Nat} {w w':World} (m:Mkd lo (Er w h) w w') (hl:h≤w.heap.size):Keeps h w w' :=
 ⟨m.bel.size,fun b o h1 h2=>m.up b o (by rw [Dr hl];exact h1) h2⟩
theorem Mkd.cut {lo h:Nat} {w:World} (hl:h≤w.heap.size) (h0:lo≤h):Mkd lo (Er w h) w w:=Mkd.start (Ap hl) (by rw [Dr hl];exact h0)
theorem Zt {lo h:Nat} {w:World} {a:OA} {xs:List Wnt} (hs:SliceC WntC 7 lo w a xs) (u:Und a h) (hl:h≤w.heap.size):SliceC WntC 7 lo (Er w h) a xs:=by
 refine ⟨hs.1,?_⟩;rcases hs.2 with h0 | ⟨b,o,e,⟨l1,f1⟩,hb,hc⟩
 ·exact .inl h0
 ·have hbh:b<h:=u b o none e
  have hb2:b<(Er w h).heap.size:=by rw [Dr hl];exact hbh
  exact .inr ⟨b,o,e,⟨l1,fun hp p=>((Ap hl).frozen (p:=⟨b,p,none⟩) hb2).symm.trans (f1 hp p)⟩,hb2,fun k x hk=>by
   obtain ⟨q0,q1,q2,q3,q4,q5,q6,z0,z2⟩:=hc k x hk
   exact ⟨((Ap hl).cell (p:=⟨b,o+k*7+0,none⟩) hb2).symm.trans q0,((Ap hl).cell (p:=⟨b,o+k*7+1,none⟩) hb2).symm.trans q1,((Ap hl).cell (p:=⟨b,o+k*7+2,none⟩) hb2).symm.trans q2,((Ap hl).cell (p:=⟨b,o+k*7+3,none⟩) hb2).symm.trans q3,((Ap hl).cell (p:=⟨b,o+k*7+4,none⟩) hb2).symm.trans q4,((Ap hl).cell (p:=⟨b,o+k*7+5,none⟩) hb2).symm.trans q5,((Ap hl).cell (p:=⟨b,o+k*7+6,none⟩) hb2).symm.trans q6,z0,z2⟩⟩
theorem MkdRWnt.under {w w':World} {a:OA} {n k h:Nat} (m:MkdRWnt w a n k) (u:Und a h) (hb:Below h w w'):MkdRWnt w' a n k:=by
 rcases m with m | ⟨b,o,e,m⟩
 ·exact .inl m
 ·exact .inr ⟨b,o,e,fun t ht=>(hb.cell (p:=⟨b,o+t,none⟩) (u b o none e)).trans (m t ht)⟩
theorem aJ {lo h:Nat} {w:World} {a:OA} {xs:List Rn} (hs:SliceC RnC 11 lo w a xs) (u:Und a h) (hl:h≤w.heap.size):SliceC RnC 11 lo (Er w h) a xs:=by
 refine ⟨hs.1,?_⟩;rcases hs.2 with h0 | ⟨b,o,e,⟨l1,f1⟩,hb,hc⟩
 ·exact .inl h0
 ·have hbh:b<h:=u b o none e
  have hb2:b<(Er w h).heap.size:=by rw [Dr hl];exact hbh
  exact .inr ⟨b,o,e,⟨l1,fun hp p=>((Ap hl).frozen (p:=⟨b,p,none⟩) hb2).symm.trans (f1 hp p)⟩,hb2,fun k x hk=>by
   obtain ⟨q0,q1,q2,q3,q4,q5,q6,q7,q8,q9,q10,z0,z2⟩:=hc k x hk
   exact ⟨((Ap hl).cell (p:=⟨b,o+k*11+0,none⟩) hb2).symm.trans q0,((Ap hl).cell (p:=⟨b,o+k*11+1,none⟩) hb2).symm.trans q1,((Ap hl).cell (p:=⟨b,o+k*11+2,none⟩) hb2).symm.trans q2,((Ap hl).cell (p:=⟨b,o+k*11+3,none⟩) hb2).symm.trans q3,((Ap hl).cell (p:=⟨b,o+k*11+4,none⟩) hb2).symm.trans q4,((Ap hl).cell (p:=⟨b,o+k*11+5,none⟩) hb2).symm.trans q5,((Ap hl).cell (p:=⟨b,o+k*11+6,none⟩) hb2).symm.trans q6,((Ap hl).cell (p:=⟨b,o+k*11+7,none⟩) hb2).symm.trans q7,((Ap hl).cell (p:=⟨b,o+k*11+8,none⟩) hb2).symm.trans q8,((Ap hl).cell (p:=⟨b,o+k*11+9,none⟩) hb2).symm.trans q9,((Ap hl).cell (p:=⟨b,o+k*11+10,none⟩) hb2).symm.trans q10,z0,z2⟩⟩
theorem MarkedR.under {w w':World} {a:OA} {n k h:Nat} (m:MarkedR w a n k) (u:Und a h) (hb:Below h w w'):MarkedR w' a n k:=by
 rcases m with m | ⟨b,o,e,m⟩
 ·exact .inl m
 ·exact .inr ⟨b,o,e,fun t ht=>(hb.cell (p:=⟨b,o+t,none⟩) (u b o none e)).trans (m t ht)⟩
theorem Tc {lo h:Nat} {w:World} {a:OA} {xs:List Aks} (hs:SliceC AksC 4 lo w a xs) (u:Und a h) (hl:h≤w.heap.size):SliceC AksC 4 lo (Er w h) a xs:=by
 refine ⟨hs.1,?_⟩;rcases hs.2 with h0 | ⟨b,o,e,⟨l1,f1⟩,hb,hc⟩
 ·exact .inl h0
 ·have hbh:b<h:=u b o none e
  have hb2:b<(Er w h).heap.size:=by rw [Dr hl];exact hbh
  exact .inr ⟨b,o,e,⟨l1,fun hp p=>((Ap hl).frozen (p:=⟨b,p,none⟩) hb2).symm.trans (f1 hp p)⟩,hb2,fun k x hk=>by
   obtain ⟨q0,q1,q2,q3,z0,z2⟩:=hc k x hk
   exact ⟨((Ap hl).cell (p:=⟨b,o+k*4+0,none⟩) hb2).symm.trans q0,((Ap hl).cell (p:=⟨b,o+k*4+1,none⟩) hb2).symm.trans q1,((Ap hl).cell (p:=⟨b,o+k*4+2,none⟩) hb2).symm.trans q2,((Ap hl).cell (p:=⟨b,o+k*4+3,none⟩) hb2).symm.trans q3,z0,z2⟩⟩
theorem MkdRAks.under {w w':World} {a:OA} {n k h:Nat} (m:MkdRAks w a n k) (u:Und a h) (hb:Below h w w'):MkdRAks w' a n k:=by
 rcases m with m | ⟨b,o,e,m⟩
 ·exact .inl m
 ·exact .inr ⟨b,o,e,fun t ht=>(hb.cell (p:=⟨b,o+t,none⟩) (u b o none e)).trans (m t ht)⟩
theorem Rc (x:Mte) (a5:OA) (c5:Nat) (a6:OA) (c6:Nat) (a7:OA) (c7:Nat) (a8:OA) (c8:Nat) (lo k:Nat) (wx ws w:World) (hin:MSv x lo a5 a6 a7 a8 wx) (hlo:0<lo) (hm0:Mkd lo wx ws w) (h0:0<k) (h1:k+x.wants.length*7+x.runs.length*11+x.asks.length*4+x.gives.length*4≤1073741824) :
  Calls Tryz.prog 10 #[.agg (mmA x a5 c5 a6 c6 a7 c7 a8 c8),.int .i64 (k:Int)] w fun e w'=>e=.returned (.int .i64 ((k+x.wants.length*7+x.runs.length*11+x.asks.length*4+x.gives.length*4:Nat):Int))∧Mkd lo wx ws w':=by
 have S:=iH hin;clear hin;have HK1:=Blk.alloc w (mmA x a5 c5 a6 c6 a7 c7 a8 c8) 32;have hxs:wx.heap.size≤w.heap.size:=hm0.sz;have M1:=iH (hm0.below ((Below.refl _ w).alloc nL (Obj.cells (mmA x a5 c5 a6 c6 a7 c7 a8 c8) 32)));clear hm0;go_enter Tryz.func10,Tryz.ntmps10;go_upto_region 1 with fail;generalize w.alloc (Obj.cells (mmA x a5 c5 a6 c6 a7 c7 a8 c8) 32)=w1 at *;have C1:Hid (∀ t v,((mmA x a5 c5 a6 c6 a7 c7 a8 c8):Array Value)[t]?=some v→w1.cell? ⟨w.heap.size,t,none⟩=some v):=fun t v hv=>HK1.cell hv
 have hl1:w.heap.size<w1.heap.size:=HK1.lt;clear HK1;have k5:w1.cell? ⟨w.heap.size,5,none⟩=some (.slice a5 x.wants.length c5):=C1.out 5 _ rfl;go_wp2_with fail;clear k5;refine (Jq x.wants a5 c5 lo (k) wx w1 w1 S.out.s5 hlo M1.out.rebase (by omega) (by omega)).mono ?_;rintro e w2 ⟨rfl,-,hm⟩;have C2:Hid (∀ t v,((mmA x a5 c5 a6 c6 a7 c7 a8 c8):Array Value)[t]?=some v→w2.cell? ⟨w.heap.size,t,none⟩=some v):=fun t v hv=>(hm.up w.heap.size t hxs hl1).1.trans (C1 t v hv)
 have hl2:w.heap.size<w2.heap.size:=lL hl1 hm.bel.size;have M2:=iH (M1.out.trans hm);clear hm C1 M1;have k6:w2.cell? ⟨w.heap.size,6,none⟩=some (.slice a6 x.runs.length c6):=C2.out 6 _ rfl;go_wp2_with fail;clear k6;refine (Lc x.runs a6 c6 lo (k+x.wants.length*7) wx w2 w2 S.out.s6 hlo M2.out.rebase (by omega) (by omega)).mono ?_;rintro e w3 ⟨rfl,-,hm⟩;have C3:Hid (∀ t v,((mmA x a5 c5 a6 c6 a7 c7 a8 c8):Array Value)[t]?=some v→w3.cell? ⟨w.heap.size,t,none⟩=some v):=fun t v hv=>(hm.up w.heap.size t hxs hl2).1.trans (C2 t v hv)
 have hl3:w.heap.size<w3.heap.size:=lL hl2 hm.bel.size;have M3:=iH (M2.out.trans hm);clear hm C2 M2;have k7:w3.cell? ⟨w.heap.size,7,none⟩=some (.slice a7 x.asks.length c7):=C3.out 7 _ rfl;go_wp2_with fail;clear k7;refine (Et x.asks a7 c7 lo (k+x.wants.length*7+x.runs.length*11) wx w3 w3 S.out.s7 hlo M3.out.rebase (by omega) (by omega)).mono ?_;rintro e w4 ⟨rfl,-,hm⟩;have C4:Hid (∀ t v,((mmA x a5 c5 a6 c6 a7 c7 a8 c8):Array Value)[t]?=some v→w4.cell? ⟨w.heap.size,t,none⟩=some v):=fun t v hv=>(hm.up w.heap.size t hxs hl3).1.trans (C3 t v hv)
 have hl4:w.heap.size<w4.heap.size:=lL hl3 hm.bel.size;have M4:=iH (M3.out.trans hm);clear hm C3 M3;have k8:w4.cell? ⟨w.heap.size,8,none⟩=some (.slice a8 x.gives.length c8):=C4.out 8 _ rfl;go_wp2_with fail;clear k8;refine (Et x.gives a8 c8 lo (k+x.wants.length*7+x.runs.length*11+x.asks.length*4) wx w4 w4 S.out.s8 hlo M4.out.rebase (by omega) (by omega)).mono ?_;rintro e w5 ⟨rfl,-,hm⟩;have C5:Hid (∀ t v,((mmA x a5 c5 a6 c6 a7 c7 a8 c8):Array Value)[t]?=some v→w5.cell? ⟨w.heap.size,t,none⟩=some v):=fun t v hv=>(hm.up w.heap.size t hxs hl4).1.trans (C4 t v hv)
 have hl5:w.heap.size<w5.heap.size:=lL hl4 hm.bel.size;have M5:=iH (M4.out.trans hm);clear hm C4 M4;go_wp2_with fail;go_ret;exact ⟨rfl,M5⟩
def Mk4 (x:Mte) (k:Nat) (a5 a6 a7 a8:OA) (w:World):Prop:=MkdRWnt w a5 x.wants.length (k)∧MarkedR w a6 x.runs.length (k+x.wants.length*7)∧MkdRAks w a7 x.asks.length (k+x.wants.length*7+x.runs.length*11)∧MkdRAks w a8 x.gives.length (k+x.wants.length*7+x.runs.length*11+x.asks.length*4)
theorem Mk4.below {x:Mte} {k:Nat} {a5 a6 a7 a8:OA} {w w':World} (h:Mk4 x k a5 a6 a7 a8 w) (hb:Below w.heap.size w w'):Mk4 x k a5 a6 a7 a8 w' :=
 ⟨h.1.below hb,h.2.1.below hb,h.2.2.1.below hb,h.2.2.2.below hb⟩
theorem We (x:Mte) (a5:OA) (c5:Nat) (a6:OA) (c6:Nat) (a7:OA) (c7:Nat) (a8:OA) (c8:Nat) (lo hi k:Nat) (w:World) (hin:G4 x lo hi a5 a6 a7 a8 w) (hlo:0<lo) (h0:0<k) (h1:k+x.wants.length*7+x.runs.length*11+x.asks.length*4+x.gives.length*4≤1073741824) :
  Calls Tryz.prog 10 #[.agg (mmA x a5 c5 a6 c6 a7 c7 a8 c8),.int .i64 (k:Int)] w fun e w'=>e=.returned (.int .i64 ((k+x.wants.length*7+x.runs.length*11+x.asks.length*4+x.gives.length*4:Nat):Int))∧Mk4 x k a5 a6 a7 a8 w'∧Below lo w w'∧Keeps hi w w':=by
 obtain ⟨h5,h6,h7,l5,l6,l7,l8,l9,u5,u6,u7,u8,s5,s6,s7,s8⟩:=hin;have hb0:=(Below.refl _ w).alloc nL (Obj.cells (mmA x a5 c5 a6 c6 a7 c7 a8 c8) 32);have S5:=iH (s5.below WntC.holds hb0 nL);have S6:=iH (s6.below RnC.holds hb0 nL);have S7:=iH (s7.below AksC.holds hb0 nL);have S8:=iH (s8.below AksC.holds hb0 nL);have U5:=iH u5;have U6:=iH u6;have U7:=iH u7;have U8:=iH u8;have B1:Hid (Below lo w (w.alloc (Obj.cells (mmA x a5 c5 a6 c6 a7 c7 a8 c8) 32))):=hb0.mono (by omega);have K1:Hid (Keeps hi w (w.alloc (Obj.cells (mmA x a5 c5 a6 c6 a7 c7 a8 c8) 32))):=Keeps.of_below hb0 nL _;have HK1:=Blk.alloc w (mmA x a5 c5 a6 c6 a7 c7 a8 c8) 32;clear s5 s6 s7 s8 u5 u6 u7 u8 hb0;go_enter Tryz.func10,Tryz.ntmps10;go_upto_region 1 with fail;generalize w.alloc (Obj.cells (mmA x a5 c5 a6 c6 a7 c7 a8 c8) 32)=w1 at *;have C1:Hid (∀ t v,((mmA x a5 c5 a6 c6 a7 c7 a8 c8):Array Value)[t]?=some v→w1.cell? ⟨w.heap.size,t,none⟩=some v):=fun t v hv=>HK1.cell hv
 have hl1:w.heap.size<w1.heap.size:=HK1.lt;clear HK1;have k5:w1.cell? ⟨w.heap.size,5,none⟩=some (.slice a5 x.wants.length c5):=C1.out 5 _ rfl;go_wp2_with fail;clear k5;refine (Jq x.wants a5 c5 lo (k) (Er w1 h5) w1 w1 (Zt S5 U5 (by omega)) (by omega) (Mkd.cut (by omega) (by omega)) (by omega) (by omega)).mono ?_;rintro e w2 ⟨rfl,hr,hm⟩;have hkp:=hm.keeps (by omega);have C2:Hid (∀ t v,((mmA x a5 c5 a6 c6 a7 c7 a8 c8):Array Value)[t]?=some v→w2.cell? ⟨w.heap.size,t,none⟩=some v):=fun t v hv=>(hkp.2 w.heap.size t (by omega) hl1).1.trans (C1 t v hv)
 have hl2:w.heap.size<w2.heap.size:=lL hl1 hm.bel.size;replace S6:=iH (S6.out.keep RnC.holds (hkp.lower (by omega)) nL);replace S7:=iH (S7.out.keep AksC.holds (hkp.lower (by omega)) nL);replace S8:=iH (S8.out.keep AksC.holds (hkp.lower (by omega)) nL);have R5:=iH hr;have B2:=iH (B1.out.trans (hm.bel.mono (by omega)));have K2:Hid (Keeps hi w w2):=K1.out.trans (hkp.lower (by omega));clear hr hm hkp C1 B1 K1 S5;have k6:w2.cell? ⟨w.heap.size,6,none⟩=some (.slice a6 x.runs.length c6):=C2.out 6 _ rfl;go_wp2_with fail;clear k6;refine (Lc x.runs a6 c6 h5 (k+x.wants.length*7) (Er w2 h6) w2 w2 (aJ S6 U6 (by omega)) (by omega) (Mkd.cut (by omega) (by omega)) (by omega) (by omega)).mono ?_;rintro e w3 ⟨rfl,hr,hm⟩;have hkp:=hm.keeps (by omega);have C3:Hid (∀ t v,((mmA x a5 c5 a6 c6 a7 c7 a8 c8):Array Value)[t]?=some v→w3.cell? ⟨w.heap.size,t,none⟩=some v):=fun t v hv=>(hkp.2 w.heap.size t (by omega) hl2).1.trans (C2 t v hv)
 have hl3:w.heap.size<w3.heap.size:=lL hl2 hm.bel.size;replace S7:=iH (S7.out.keep AksC.holds (hkp.lower (by omega)) nL);replace S8:=iH (S8.out.keep AksC.holds (hkp.lower (by omega)) nL);replace R5:=iH (R5.out.under U5 (hm.bel.mono (by omega)));have R6:=iH hr;have B3:=iH (B2.out.trans (hm.bel.mono (by omega)));have K3:Hid (Keeps hi w w3):=K2.out.trans (hkp.lower (by omega));clear hr hm hkp C2 B2 K2 S6;have k7:w3.cell? ⟨w.heap.size,7,none⟩=some (.slice a7 x.asks.length c7):=C3.out 7 _ rfl;go_wp2_with fail;clear k7;refine (Et x.asks a7 c7 h6 (k+x.wants.length*7+x.runs.length*11) (Er w3 h7) w3 w3 (Tc S7 U7 (by omega)) (by omega) (Mkd.cut (by omega) (by omega)) (by omega) (by omega)).mono ?_;rintro e w4 ⟨rfl,hr,hm⟩;have hkp:=hm.keeps (by omega);have C4:Hid (∀ t v,((mmA x a5 c5 a6 c6 a7 c7 a8 c8):Array Value)[t]?=some v→w4.cell? ⟨w.heap.size,t,none⟩=some v):=fun t v hv=>(hkp.2 w.heap.size t (by omega) hl3).1.trans (C3 t v hv)
 have hl4:w.heap.size<w4.heap.size:=lL hl3 hm.bel.size;replace S8:=iH (S8.out.keep AksC.holds (hkp.lower (by omega)) nL);replace R5:=iH (R5.out.under U5 (hm.bel.mono (by omega)));replace R6:=iH (R6.out.under U6 (hm.bel.mono (by omega)));have R7:=iH hr;have B4:=iH (B3.out.trans (hm.bel.mono (by omega)));have K4:Hid (Keeps hi w w4):=K3.out.trans (hkp.lower (by omega));clear hr hm hkp C3 B3 K3 S7;have k8:w4.cell? ⟨w.heap.size,8,none⟩=some (.slice a8 x.gives.length c8):=C4.out 8 _ rfl;go_wp2_with fail;clear k8;refine (Et x.gives a8 c8 h7 (k+x.wants.length*7+x.runs.length*11+x.asks.length*4) (Er w4 hi) w4 w4 (Tc S8 U8 (by omega)) (by omega) (Mkd.cut (by omega) (by omega)) (by omega) (by omega)).mono ?_;rintro e w5 ⟨rfl,hr,hm⟩;have hkp:=hm.keeps (by omega);have C5:Hid (∀ t v,((mmA x a5 c5 a6 c6 a7 c7 a8 c8):Array Value)[t]?=some v→w5.cell? ⟨w.heap.size,t,none⟩=some v):=fun t v hv=>(hkp.2 w.heap.size t (by omega) hl4).1.trans (C4 t v hv)
 have hl5:w.heap.size<w5.heap.size:=lL hl4 hm.bel.size;replace R5:=iH (R5.out.under U5 (hm.bel.mono (by omega)));replace R6:=iH (R6.out.under U6 (hm.bel.mono (by omega)));replace R7:=iH (R7.out.under U7 (hm.bel.mono (by omega)));have R8:=iH hr;have B5:=iH (B4.out.trans (hm.bel.mono (by omega)));have K5:Hid (Keeps hi w w5):=K4.out.trans (hkp.lower (by omega));clear hr hm hkp C4 B4 K4 S8;go_wp2_with fail;go_ret;exact ⟨rfl,⟨R5,R6,R7,R8⟩,B5,K5⟩
theorem Li (x:Mte) (a5:OA) (c5:Nat) (a6:OA) (c6:Nat) (a7:OA) (c7:Nat) (a8:OA) (c8:Nat) (k:Nat) (w:World) (hin:Mk4 x k a5 a6 a7 a8 w) (h0:0<k) (h1:k+x.wants.length*7+x.runs.length*11+x.asks.length*4+x.gives.length*4≤1073741824) :
  Calls Tryz.prog 12 #[.agg (mmA x a5 c5 a6 c6 a7 c7 a8 c8),.int .i64 (k:Int)] w (Rt (.int .i64 ((k+x.wants.length*7+x.runs.length*11+x.asks.length*4+x.gives.length*4:Nat):Int)) w):=by
 have hB1:=(Below.refl _ w).alloc nL (Obj.cells (mmA x a5 c5 a6 c6 a7 c7 a8 c8) 32);have M1:=iH (hin.below hB1);have HK1:=iH (Blk.alloc w (mmA x a5 c5 a6 c6 a7 c7 a8 c8) 32);clear hin;go_enter Tryz.func12,Tryz.ntmps12;go_upto_region 1 with fail;generalize w.alloc (Obj.cells (mmA x a5 c5 a6 c6 a7 c7 a8 c8) 32)=w1 at *;have k5:w1.cell? ⟨w.heap.size,5,none⟩=some (.slice a5 x.wants.length c5):=HK1.out.cell rfl;have hp0:(0:Int)≤((k:Nat):Int):=by omega
 go_wp2_with fail;clear k5;refine (Pr a5 x.wants.length c5 (k) _ (M1.out.1) (by omega) (by omega)).mono ?_;rintro e w2 ⟨rfl,hb⟩;have HK2:=qBk HK1 hb;have M2:=iH (M1.out.below hb);have hB2:=qTr hB1 hb;clear hb HK1 M1 hB1 hp0;have k6:w2.cell? ⟨w.heap.size,6,none⟩=some (.slice a6 x.runs.length c6):=HK2.out.cell rfl;have hp1:(0:Int)≤((k+x.wants.length*7:Nat):Int):=by omega
 go_wp2_with fail;clear k6;refine (Rj a6 x.runs.length c6 (k+x.wants.length*7) _ (M2.out.2.1) (by omega) (by omega)).mono ?_;rintro e w3 ⟨rfl,hb⟩;have HK3:=qBk HK2 hb;have M3:=iH (M2.out.below hb);have hB3:=qTr hB2 hb;clear hb HK2 M2 hB2 hp1;have k7:w3.cell? ⟨w.heap.size,7,none⟩=some (.slice a7 x.asks.length c7):=HK3.out.cell rfl;have hp2:(0:Int)≤((k+x.wants.length*7+x.runs.length*11:Nat):Int):=by omega
 go_wp2_with fail;clear k7;refine (Jg a7 x.asks.length c7 (k+x.wants.length*7+x.runs.length*11) _ (M3.out.2.2.1) (by omega) (by omega)).mono ?_;rintro e w4 ⟨rfl,hb⟩;have HK4:=qBk HK3 hb;have M4:=iH (M3.out.below hb);have hB4:=qTr hB3 hb;clear hb HK3 M3 hB3 hp2;have k8:w4.cell? ⟨w.heap.size,8,none⟩=some (.slice a8 x.gives.length c8):=HK4.out.cell rfl;have hp3:(0:Int)≤((k+x.wants.length*7+x.runs.length*11+x.asks.length*4:Nat):Int):=by omega
 go_wp2_with fail;clear k8;refine (Jg a8 x.gives.length c8 (k+x.wants.length*7+x.runs.length*11+x.asks.length*4) _ (M4.out.2.2.2) (by omega) (by omega)).mono ?_;rintro e w5 ⟨rfl,hb⟩;have HK5:=qBk HK4 hb;have M5:=iH (M4.out.below hb);have hB5:=qTr hB4 hb;clear hb HK4 M4 hB4 hp3;have hp4:(0:Int)≤((k+x.wants.length*7+x.runs.length*11+x.asks.length*4+x.gives.length*4:Nat):Int):=by omega
 go_wp2_with fail;go_ret;exact ⟨rfl,hB5⟩
end Go.Proofs.YtkiloaiffopllaaGreat
