import Derived.Test.YtpeajnkkdioflaaGreatShp
set_option maxHeartbeats 2000000
namespace Go.Proofs.YtpeajnkkdioflaaGreat
open Go.RowKit
structure Svc where
 name:ByteArray
 spare:Int
def Cp (x:Svc):Nat:=x.name.size
def SvcC:Ed Svc:=fun _ _ f x=>f 0=some (.string x.name)∧f 1=some (.int .i64 x.spare)∧x.name.size≤maxLen
theorem SvcC.holds:Ep SvcC 2:=by
 rintro lo lo' w w' f g x h _ _ ⟨q0,q1,z0⟩;exact ⟨(h 0 (by omega)).trans q0,(h 1 (by omega)).trans q1,z0⟩
theorem bT (x:Svc)  (L:Int) (w:World) (z0:x.name.size≤maxLen)  (h0:0≤L) (h1:L≤1048576) :
  Calls Tryz.prog 40 #[.agg #[.string x.name,.int .i64 x.spare],.int .i64 L] w fun e w'=>e=.returned (.int .i64 (szR (Cp x) L))∧Below w.heap.size w w':=by
 unfold maxLen at z0;have HW:Hid (Cp x=x.name.size):=rfl;generalize Cp x=W at *;by_cases d0:L - (x.name.size:Nat)<0
 ·go_enter Tryz.func40,Tryz.ntmps40
  go_wp2_with fail;go_ret;exact ⟨Av (by have:=HW.out;unfold szR;rw [if_neg (by omega)]),by go_grown⟩
 ·skip
  go_enter Tryz.func40,Tryz.ntmps40;go_wp2_with fail;go_ret;exact ⟨Av (by have:=HW.out;unfold szR;rw [if_pos (by omega)];omega),by go_grown⟩
theorem Ff:(Tryz.prog.info? 78).map (·.size)=some 2:=by kernel_rfl
theorem cM (x:Svc) (w:World) :
  Calls Tryz.prog 54 #[.agg #[.string x.name,.int .i64 x.spare]] w fun e w'=>e=.returned (.agg #[.string x.name,.int .i64 x.spare])∧Below w.heap.size w w':=by
 go_enter Tryz.func54,Tryz.ntmps54
 go_wp2
 go_returns
 exact ⟨rfl,by go_grown⟩
theorem bH (x:Svc) (w:World) :
  Calls Tryz.prog 68 #[.agg #[.string x.name,.int .i64 x.spare],.agg #[.string x.name,.int .i64 x.spare]] w fun e w'=>e=.returned (.bool true)∧Below w.heap.size w w':=by
 go_enter Tryz.func68,Tryz.ntmps68
 go_wp2
 go_ret;exact ⟨rfl,by go_grown⟩
theorem Yo (xs:List Svc) (a:Option Addr) (cap lo:Nat) (L:Int) (w:World) (hin:SliceC SvcC 2 lo w a xs) (h0:0≤L) (h1:L≤1048576) :
  Calls Tryz.prog 14 #[.slice a xs.length cap,.int .i64 L] w fun e w'=>e=.returned (.int .i64 (szR (wS Cp xs) L))∧Below w.heap.size w w':=by
 have hlen:=hin.1;unfold maxLen at hlen;have HI:Hid (SliceC SvcC 2 lo w a xs):=hin;clear hin;have HW:Hid (wS Cp xs=xs.length+(xs.map Cp).sum):=rfl;generalize wS Cp xs=W at *;by_cases c1:L - xs.length<0
 ·go_enter Tryz.func14,Tryz.ntmps14
  go_wp2_with fail;go_ret;exact ⟨Av (by have:=HW.out;unfold szR;rw [if_neg (by omega)]),Below.refl _ _⟩
 ·go_enter Tryz.func14,Tryz.ntmps14
  go_wp2_with fail;go_loopw [1,5] (fun l i wr=>∃ (k:Nat) (M:Int),k≤xs.length∧i=.int .i64 k∧l=.int .i64 M∧0≤M∧M≤1048576∧Hid (M=L - xs.length - ((xs.take k).map Cp).sum)∧Below w.heap.size w wr) (fun _ i _=>xs.length - (intOf i).toNat)
  case atStart=>exact ⟨0,_,Nat.zero_le _,rfl,rfl,by omega,by omega,by show _=_;simp,Below.refl _ _⟩
  case round =>
   obtain ⟨k,M,hk,rfl,rfl,hM0,hM1,hM,hbel⟩:=hrel;by_cases hlt:k<xs.length
   ·obtain ⟨x,hx⟩:∃ x,xs[k]?=some x:=⟨xs[k],List.getElem?_eq_getElem hlt⟩
    obtain ⟨b,o,rfl,_,_,hc⟩:=(HI.out.below SvcC.holds hbel nL).at hx;obtain ⟨q0,q1,z0⟩:=hc;simp only [Nat.add_zero] at q0 q1;have HX:Hid (((xs.take (k+1)).map Cp).sum=((xs.take k).map Cp).sum+Cp x):=Du _ _ _ _ hx;have HY:Hid (((xs.take (k+1)).map Cp).sum≤(xs.map Cp).sum):=Cj _ _ _;have CT:=bT x M wr z0 hM0 hM1;have HCT:=iH CT;clear hx CT;by_cases hr:(Cp x:Int)≤M
    ·rw [Fd hr] at HCT
     generalize hV:Cp x=V at *;clear hV;go_wp2_with fail;refine HCT.out.mono ?_;rintro e w1 ⟨rfl,hb1⟩;clear HCT;go_wp2_with fail;go_roundw
     case rel =>
      refine ⟨k+1,M - V,by omega,by go_num,rfl,by omega,by omega,?_,hbel.trans (hb1.mono hbel.size)⟩;have:=hM.out;have:=HX.out;show _=_
      omega
     case measure=>simp [intOf];omega
    ·rw [Fe hr] at HCT
     generalize hV:Cp x=V at *;clear hV;go_wp2_with fail;refine HCT.out.mono ?_;rintro e w1 ⟨rfl,hb1⟩;clear HCT;go_wp2_with fail;go_ret;refine ⟨Av ?_,hbel.trans (hb1.mono hbel.size)⟩;have:=HW.out;have:=HX.out;have:=HY.out;have:=hM.out;unfold szR;rw [if_neg (by omega)]
   ·go_wp2_with fail
    go_ret;refine ⟨Av ?_,hbel⟩;have hke:k=xs.length:=by omega
    subst hke;have h3:=hM.out;have h4:=HW.out;simp only [List.take_length] at h3;unfold szR;rw [if_pos (by omega)];omega
theorem gD:(Tryz.prog.info? 78).map (fun i=>(i.zero,i.size,i.bytes))=some (some (.agg #[.string ⟨#[]⟩,.int .i64 0]),2,24):=by kernel_rfl
theorem Wn (xs:List Svc) (a:Option Addr) (cap lo:Nat) (w:World) (hin:SliceC SvcC 2 lo w a xs) (hsm:wS Cp xs≤1048576) :
  Calls Tryz.prog 19 #[.slice a xs.length cap] w fun e w'=>∃ g,e=.returned (.slice (some ⟨g,0,none⟩) xs.length xs.length)∧w.heap.size≤g∧SliceC SvcC 2 w.heap.size w' (some ⟨g,0,none⟩) xs∧Below w.heap.size w w':=by
 obtain ⟨i0,hi,hz0,hz1,hz2⟩:=info_parts gD;have hlen:xs.length≤1048576:=Nat.le_trans Df hsm;have HI:Hid (SliceC SvcC 2 lo w a xs):=hin;have HSM:Hid (wS Cp xs≤1048576):=hsm;clear hin hsm;go_enter Tryz.func19,Tryz.ntmps19;go_wp2_with (at_make;refine wpList_make_full _ rfl _ _ 35 rfl w.heap.size 78 i0 _ 2 Tryz.underlying35 hi hz0 hz1 .i64 .i64 _ _ xs.length rfl rfl rfl rfl (by rw [hz2];omega) (by unfold maxLen;omega) nL ?_;intro w1 hown hgrow);have hb1:Below w.heap.size w w1:=(Below.refl _ _).grown hgrow nL (fun k h=>by cases h);have hsz1:=(hown.lt w.heap.size rfl).2;generalize hX:(madeCells _ (xs.length*2)).toList=xs0 at hown;clear hX hgrow hi hz0 hz1 hz2;go_loopw [4] (fun i wr=>∃ (k:Nat) (cs:List Value),k≤xs.length∧i=.int .i64 k∧w.heap.size<wr.heap.size∧wr.ownsRow w.heap.size 78 2 (.slice (some ⟨w.heap.size,0,none⟩) xs.length xs.length) xs.length cs∧RowC SvcC 2 (w.heap.size+1) wr cs xs k∧Below w.heap.size w wr) (fun i _=>xs.length - (intOf i).toNat)
 case atStart=>exact ⟨0,xs0,Nat.zero_le _,rfl,hsz1,hown,fun j n h=>by omega,hb1⟩
 case round =>
  clear hown hb1 hsz1;obtain ⟨k,cs,hk,rfl,hszr,hown,hfil,hbel⟩:=hrel;by_cases hlt:k<xs.length
  ·obtain ⟨x,hx⟩:∃ x,xs[k]?=some x:=⟨xs[k],List.getElem?_eq_getElem hlt⟩
   obtain ⟨b,o,rfl,_,_,hc⟩:=(HI.out.below SvcC.holds hbel nL).at hx;obtain ⟨q0,q1,z0⟩:=hc;simp only [Nat.add_zero] at q0 q1;have HN:Hid (xs[k]?=some x):=hx;have hwx:Cp x≤1048576:=Nat.le_trans (Fo (List.mem_of_getElem? hx)) HSM.out;have HO:Hid (wr.ownsRow w.heap.size 78 2 (.slice (some ⟨w.heap.size,0,none⟩) xs.length xs.length) xs.length cs):=hown;have HF:Hid (RowC SvcC 2 (w.heap.size+1) wr cs xs k):=hfil;have HS:Hid (w.heap.size<wr.heap.size):=hszr;have CT:=cM x wr;have HCT:=iH CT;clear hx hown hfil CT hszr;go_wp2_with fail;refine HCT.out.mono ?_;rintro e w2 ⟨rfl,hb2⟩;clear HCT q0 q1;have ho2:=Ao HO.out hb2;have HB2:Hid (Below w.heap.size w w2):=hbel.trans (hb2.mono hbel.size);have HF2:Hid (RowC SvcC 2 (w.heap.size+1) w2 cs xs k):=HF.out.keep SvcC.holds (Keeps.of_below hb2 nL _);have hs2:Hid (w.heap.size<w2.heap.size):=Nat.lt_of_lt_of_le HS.out hb2.size;have HR:Hid (SvcC (w.heap.size+1) w2 (fun i=>([.string x.name,.int .i64 x.spare]:List Value)[i]?) x):=⟨rfl,rfl,z0⟩;have hxl:cs.length=xs.length*2:=ho2.1;have HT:Hid (w2.there w.heap.size (k*2) 2):=Fg ho2 (by omega);have HL:Hid (cs.length=xs.length*2):=hxl;have HO2:Hid (w2.ownsRow w.heap.size 78 2 (.slice (some ⟨w.heap.size,0,none⟩) xs.length xs.length) xs.length cs):=ho2;clear hxl ho2 HO hb2 hwx;obtain ⟨w3,hw3⟩:∃ w',w'=w2.setCells w.heap.size (k*2) [.string x.name,.int .i64 x.spare]:=⟨_,rfl⟩;have HW3:Hid (w3=w2.setCells w.heap.size (k*2) [.string x.name,.int .i64 x.spare]):=hw3;have HS3:Hid (w.heap.size<w3.heap.size):=by rw [hw3,Cn];exact hs2
   have HO3:Hid (w3.ownsRow w.heap.size 78 2 (.slice (some ⟨w.heap.size,0,none⟩) xs.length xs.length) xs.length (Dp cs (k*2) [.string x.name,.int .i64 x.spare])):=by rw [hw3];exact Fi _ _ _ _ HO2.out
   have HB3:Hid (Below w.heap.size w w3):=by rw [hw3];exact Ai nL _ _ _ HB2.out
   have HR3:Hid (RowC SvcC 2 (w.heap.size+1) w3 (Dp cs (k*2) [.string x.name,.int .i64 x.spare]) xs (k+1)):=by
    rw [hw3];exact (HF2.out.step (vs:=[.string x.name,.int .i64 x.spare]) SvcC.holds HN.out rfl (by have:=HL.out;omega) HR.out).keep SvcC.holds (Keeps.setCells (by omega) _ _ _)
   clear hw3 HB2 HF2 hs2 HR HL HO2;go_wp2_with (refine Ap rfl 78 _ _ rfl w.heap.size (k*2) #[.string x.name,.int .i64 x.spare] (by first | rfl | (simp [go_sem];done)) rfl HT.out Ff (by simp [Value.oneCell']) w3 HW3.out ?_);go_roundw
   case rel=>exact ⟨k+1,_,by omega,by go_num,HS3.out,HO3.out,HR3.out,HB3.out⟩
   case measure=>simp [intOf];omega
  ·have HO:Hid (wr.ownsRow w.heap.size 78 2 (.slice (some ⟨w.heap.size,0,none⟩) xs.length xs.length) xs.length cs):=hown
   have HF:Hid (RowC SvcC 2 (w.heap.size+1) wr cs xs k):=hfil;clear hown hfil;go_wp2_with fail;go_ret;have hke:k=xs.length:=by omega
   subst hke;exact ⟨_,rfl,Nat.le_refl _,Dw HO.out HF.out SvcC.holds HI.out.1 (by omega) nL,hbel⟩
theorem Yg (xs:List Svc) (a a':Option Addr) (cap cap' lo lo':Nat) (w:World) (hg:SliceC SvcC 2 lo w a xs) (hh:SliceC SvcC 2 lo' w a' xs) (hsm:wS Cp xs≤1048576) :
  Calls Tryz.prog 28 #[.slice a xs.length cap,.slice a' xs.length cap'] w fun e w'=>e=.returned (.bool true)∧Below w.heap.size w w':=by
 have hlen:xs.length≤1048576:=Nat.le_trans Df hsm;have HG:Hid (SliceC SvcC 2 lo w a xs):=hg;have HH:Hid (SliceC SvcC 2 lo' w a' xs):=hh;clear hg hh hsm;go_enter Tryz.func28,Tryz.ntmps28;go_wp2_with fail;go_loopw [5] (fun i wr=>∃ (k:Nat),k≤xs.length∧i=.int .i64 k∧Below w.heap.size w wr) (fun i _=>xs.length - (intOf i).toNat)
 case atStart=>exact ⟨0,Nat.zero_le _,rfl,Below.refl _ _⟩
 case round =>
  obtain ⟨k,hk,rfl,hbel⟩:=hrel;by_cases hlt:k<xs.length
  ·obtain ⟨x,hx⟩:∃ x,xs[k]?=some x:=⟨xs[k],List.getElem?_eq_getElem hlt⟩
   obtain ⟨b,o,rfl,_,_,hc⟩:=(HG.out.below SvcC.holds hbel nL).at hx;obtain ⟨b',o',rfl,_,_,hc'⟩:=(HH.out.below SvcC.holds hbel nL).at hx;obtain ⟨q0,q1,_⟩:=hc;obtain ⟨r0,r1,_⟩:=hc';simp only [Nat.add_zero] at q0 q1 r0 r1;have k0:=cell_regrown q0;have l0:=cell_regrown r0;have k1:=cell_regrown q1;have l1:=cell_regrown r1;have cE:∀ d os,Calls Tryz.prog 68 #[.agg #[.string x.name,.int .i64 x.spare],.agg #[.string x.name,.int .i64 x.spare]] (Sort.grow (redrawn wr d) os) fun e w''=>e=.returned (.bool true)∧∃ p:Regrown,w''=Sort.grow (redrawn wr p.d) p.os:=fun d os=>Calls.regrown_of (bH x _)
   have i0:(0:Int)≤(k:Int):=by omega
   have i1:(k:Int)<(xs.length:Int):=by omega
   clear hx q0 q1 r0 r1;go_wp2_with fail;refine wp_region_quiet_below (by kernel_rfl) (by kernel_rfl) ?_
   repeat (quiet_step (first | exact cE _ _))
   refine wpQuiet_nil ?_;intro _ hw';obtain ⟨⟨dq,osq⟩,hw''⟩:=hw';have hB:=hbel.trans ((below_regrown wr dq osq).mono hbel.size);simp only [] at hw'';rw [← hw''] at hB;clear hw'' cE k0 l0 k1 l1;go_wp2_with fail;go_roundw
   case rel=>exact ⟨k+1,by omega,by go_num,hB⟩
   case measure=>simp [intOf];omega
  ·go_wp2_with fail
   go_ret;exact ⟨rfl,hbel⟩
end Go.Proofs.YtpeajnkkdioflaaGreat
