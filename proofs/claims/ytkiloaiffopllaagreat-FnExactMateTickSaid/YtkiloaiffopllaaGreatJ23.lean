import Derived.Test.YtkiloaiffopllaaGreatJ9
set_option maxHeartbeats 2000000
namespace Go.Proofs.YtkiloaiffopllaaGreat
set_option maxRecDepth 100000
open Go.RowKit
abbrev Bw (x:Rn) (c:Int) (g:Bool):Array Value:=#[.string x.want.copy,.int .i64 x.want.version,.string x.want.hold,.int .i64 x.want.pull,.int .i64 x.want.start,.int .i64 x.want.dies,.int .i64 x.want.grace,.int .i64 x.state,.int .i64 x.left,.int .i64 x.falls,.int .i64 x.until_,.int .i64 c,.bool g]
theorem Blk.sub11 {L:Nat} {x:Rn} {c:Int} {g:Bool} {t:TypeId} {w:World} (h:Blk L (Bw x c g) t w):w.rangeAt L 0 (rrL x):=fun j v hj=>by
 have hl:j<11:=Ah hj;have:=h.rangeA j v;refine this ?_;show ((rrL x)++[.int .i64 c,.bool g])[j]?=some v
 rw [List.getElem?_append_left (by simpa using hl)];exact hj
theorem Gl (L o:Nat) (w:World) (v:Value):Below L w (w.setCell ⟨L,o,none⟩ v):=(Below.refl L w).setCell (p:=⟨L,o,none⟩) (Nat.le_refl L) v
theorem Ms (L o p:Nat) (w:World) (v u:Value):Below L w ((w.setCell ⟨L,o,none⟩ v).setCell ⟨L,p,none⟩ u):=(Gl L o w v).setCell (p:=⟨L,p,none⟩) (Nat.le_refl L) u
theorem Fd (x:Rn) (c:Int) (g:Bool) (L:Nat) (s l:Int) (w:World) (hX:Blk L (Bw x c g) 152 w) :
  Calls Tryz.prog 114 #[.pointer (some ⟨L,0,none⟩),.int .i64 s,.int .i64 l] w fun e w'=>e=.returned (.tuple #[])∧Blk L (Bw { x with state:=s,left:=l } c g) 152 w'∧Below L w w':=by
 have HX:=iH hX;have k7:w.cell? ⟨L,7,none⟩=some (.int .i64 x.state):=hX.cell rfl;have k8:w.cell? ⟨L,8,none⟩=some (.int .i64 x.left):=hX.cell rfl;have f7:w.frozen? ⟨L,7,none⟩=false:=hX.frozen _;have f8:w.frozen? ⟨L,8,none⟩=false:=hX.frozen _;clear hX;go_enter Tryz.func114,Tryz.ntmps114;go_wp2_with fail;exact bodyPost_end (results_none rfl _ _ _) rfl ⟨rfl,(HX.out.set 7 (.int .i64 s)).set 8 (.int .i64 l),Ms _ _ _ _ _ _⟩
def ctR (x:Rn):Rn:=if 1<x.left then { x with left:=wrap64 (x.left - 1) } else x
def nxt (x:Rn) (f:Option Nat):Option Nat:=if 1<x.left then none else f
def fv:Option Nat→Value
 | none=>.nilFunc
 | some f=>.func (.func f) #[] #[]
theorem Ey (x:Rn) (c:Int) (g:Bool) (L:Nat) (f:Option Nat) (w:World) (hX:Blk L (Bw x c g) 152 w) :
  Calls Tryz.prog 177 #[.pointer (some ⟨L,0,none⟩),fv f] w fun e w'=>e=.returned (fv (nxt x f))∧Blk L (Bw (ctR x) c g) 152 w'∧Below L w w':=by
 have HX:=iH hX;have k8:w.cell? ⟨L,8,none⟩=some (.int .i64 x.left):=hX.cell rfl;have f8:w.frozen? ⟨L,8,none⟩=false:=hX.frozen _;clear hX;generalize hth:fv f=th;have HTH:=iH hth;clear hth;by_cases h:1<x.left
 ·have HC:Hid (ctR x={ x with left:=wrap64 (x.left - 1) }):=if_pos h
  have HN:Hid (nxt x f=none):=if_pos h;go_enter Tryz.func177,Tryz.ntmps177;go_wp2_with fail;go_ret;rw [HC.out,HN.out];exact ⟨rfl,HX.out.set 8 _,Gl _ _ _ _⟩
 ·have h':x.left≤1:=by omega
  have HC:Hid (ctR x=x):=if_neg h;have HN:Hid (nxt x f=f):=if_neg h;clear h;go_enter Tryz.func177,Tryz.ntmps177;go_wp2_with fail;go_ret;rw [HC.out,HN.out,HTH.out];exact ⟨rfl,HX,Below.refl _ _⟩
theorem Nt (x:Rn) (c:Int) (g:Bool) (L:Nat) (w:World) (hX:Blk L (Bw x c g) 152 w) :
  Calls Tryz.prog 171 #[.pointer (some ⟨L,0,none⟩)] w fun e w'=>e=.returned (fv (nxt x (none)))∧Blk L (Bw (ctR x) c g) 152 w'∧Below L w w':=by
 have HX:=iH hX;clear hX;go_enter Tryz.func171,Tryz.ntmps171;go_wp2_with fail;refine (Ey x c g L (none) _ HX).mono ?_;rintro e w1 ⟨rfl,hX1,hb1⟩;have HX1:=iH hX1;clear hX1;generalize hv:fv (nxt x (none))=v;have HV:=iH hv;clear hv;go_wp2_with fail;go_ret;rw [HV.out];exact ⟨rfl,HX1,hb1⟩
theorem Qa (x:Rn) (c:Int) (g:Bool) (L:Nat) (w:World) (hX:Blk L (Bw x c g) 152 w) :
  Calls Tryz.prog 172 #[.pointer (some ⟨L,0,none⟩)] w fun e w'=>e=.returned (fv (nxt x (some 173)))∧Blk L (Bw (ctR x) c g) 152 w'∧Below L w w':=by
 have HX:=iH hX;clear hX;go_enter Tryz.func172,Tryz.ntmps172;go_wp2_with fail;refine (Ey x c g L (some 173) _ HX).mono ?_;rintro e w1 ⟨rfl,hX1,hb1⟩;have HX1:=iH hX1;clear hX1;generalize hv:fv (nxt x (some 173))=v;have HV:=iH hv;clear hv;go_wp2_with fail;go_ret;rw [HV.out];exact ⟨rfl,HX1,hb1⟩
theorem Nu (x:Rn) (c:Int) (g:Bool) (L:Nat) (w:World) (hX:Blk L (Bw x c g) 152 w) :
  Calls Tryz.prog 174 #[.pointer (some ⟨L,0,none⟩)] w fun e w'=>e=.returned (fv (nxt x (some 188)))∧Blk L (Bw (ctR x) c g) 152 w'∧Below L w w':=by
 have HX:=iH hX;clear hX;go_enter Tryz.func174,Tryz.ntmps174;go_wp2_with fail;refine (Ey x c g L (some 188) _ HX).mono ?_;rintro e w1 ⟨rfl,hX1,hb1⟩;have HX1:=iH hX1;clear hX1;generalize hv:fv (nxt x (some 188))=v;have HV:=iH hv;clear hv;go_wp2_with fail;go_ret;rw [HV.out];exact ⟨rfl,HX1,hb1⟩
theorem Oh (x:Rn) (c:Int) (g:Bool) (L:Nat) (w:World) (hX:Blk L (Bw x c g) 152 w) :
  Calls Tryz.prog 175 #[.pointer (some ⟨L,0,none⟩)] w fun e w'=>e=.returned (fv (nxt x (some 189)))∧Blk L (Bw (ctR x) c g) 152 w'∧Below L w w':=by
 have HX:=iH hX;clear hX;go_enter Tryz.func175,Tryz.ntmps175;go_wp2_with fail;refine (Ey x c g L (some 189) _ HX).mono ?_;rintro e w1 ⟨rfl,hX1,hb1⟩;have HX1:=iH hX1;clear hX1;generalize hv:fv (nxt x (some 189))=v;have HV:=iH hv;clear hv;go_wp2_with fail;go_ret;rw [HV.out];exact ⟨rfl,HX1,hb1⟩
theorem Ll (x:Rn) (c:Int) (g:Bool) (L:Nat) (w:World) (hX:Blk L (Bw x c g) 152 w) :
  Calls Tryz.prog 176 #[.pointer (some ⟨L,0,none⟩)] w fun e w'=>e=.returned (fv (nxt x (some 173)))∧Blk L (Bw (ctR x) c g) 152 w'∧Below L w w':=by
 have HX:=iH hX;clear hX;go_enter Tryz.func176,Tryz.ntmps176;go_wp2_with fail;refine (Ey x c g L (some 173) _ HX).mono ?_;rintro e w1 ⟨rfl,hX1,hb1⟩;have HX1:=iH hX1;clear hX1;generalize hv:fv (nxt x (some 173))=v;have HV:=iH hv;clear hv;go_wp2_with fail;go_ret;rw [HV.out];exact ⟨rfl,HX1,hb1⟩
theorem Pv (x:Rn) (c:Int) (g:Bool) (L:Nat) (w:World) (hX:Blk L (Bw x c g) 152 w) :
  Calls Tryz.prog 154 #[.pointer (some ⟨L,0,none⟩)] w fun e w'=>e=.returned (fv (nxt x (some 155)))∧Blk L (Bw (ctR x) c g) 152 w'∧Below L w w':=by
 have HX:=iH hX;clear hX;go_enter Tryz.func154,Tryz.ntmps154;go_wp2_with fail;refine (Ey x c g L (some 155) _ HX).mono ?_;rintro e w1 ⟨rfl,hX1,hb1⟩;have HX1:=iH hX1;clear hX1;generalize hv:fv (nxt x (some 155))=v;have HV:=iH hv;clear hv;go_wp2_with fail;go_ret;rw [HV.out];exact ⟨rfl,HX1,hb1⟩
theorem Ty (x:Rn) (c:Int) (g:Bool) (L:Nat) (w:World) (hX:Blk L (Bw x c g) 152 w) :
  Calls Tryz.prog 155 #[.pointer (some ⟨L,0,none⟩)] w fun e w'=>e=.returned .nilFunc∧Blk L (Bw x c true) 152 w'∧Below L w w':=by
 have HX:=iH hX;have k12:w.cell? ⟨L,12,none⟩=some (.bool g):=hX.cell rfl;have f12:w.frozen? ⟨L,12,none⟩=false:=hX.frozen _;clear hX;go_enter Tryz.func155,Tryz.ntmps155;go_wp2_with fail;go_ret;exact ⟨rfl,HX.out.set 12 (.bool true),Gl _ _ _ _⟩
def bkB (f:Int):Int:=if f≤0 then 1 else if f=1 then 2 else if f=2 then 4 else if f=3 then 8 else 16
def pw:Nat→Int
 | 0=>1
 | 1=>2
 | 2=>4
 | 3=>8
 | _=>16
theorem Mt {f:Int} {k:Nat} (hk:k≤4) (h:k=0∨(k:Int)≤f) (he:¬ (k:Int)<f∨k=4):bkB f=pw k:=by
 have hc:k=0∨k=1∨k=2∨k=3∨k=4:=by omega
 rcases hc with rfl | rfl | rfl | rfl | rfl
 ·unfold bkB;rw [if_pos (by omega)];rfl
 ·unfold bkB;rw [if_neg (by omega),if_pos (by omega)];rfl
 ·unfold bkB;rw [if_neg (by omega),if_neg (by omega),if_pos (by omega)];rfl
 ·unfold bkB;rw [if_neg (by omega),if_neg (by omega),if_neg (by omega),if_pos (by omega)];rfl
 ·unfold bkB;rw [if_neg (by omega),if_neg (by omega),if_neg (by omega),if_neg (by omega)];rfl
theorem La (f:Int) (w:World) :
  Calls Tryz.prog 191 #[.int .i64 f] w fun e w'=>e=.returned (.int .i64 (bkB f))∧w'=w:=by
 go_enter Tryz.func191,Tryz.ntmps191;go_wp2_with fail
 go_loop [3,4] (fun l i=>∃ k:Nat,k≤4∧i=.int .i64 k∧l=.int .i64 (pw k)∧Hid (k=0∨(k:Int)≤f)) (fun _ i=>5 - (intOf i).toNat)
 case atStart=>exact ⟨0,by omega,rfl,rfl,.inl rfl⟩
 case round =>
  obtain ⟨k,hk,rfl,rfl,hf⟩:=hrel;by_cases h:(k:Int)<f
  ·have hc:k=0∨k=1∨k=2∨k=3∨k=4:=by omega
   rcases hc with rfl | rfl | rfl | rfl | rfl
   ·simp only [pw]
    go_wp2_with fail
    go_round
    case rel=>exact ⟨1,by omega,by go_num,by go_num,.inr (by simp at h ⊢;omega)⟩
    case measure=>simp [intOf]
   ·simp only [pw]
    go_wp2_with fail
    go_round
    case rel=>exact ⟨2,by omega,by go_num,by go_num,.inr (by simp at h ⊢;omega)⟩
    case measure=>simp [intOf]
   ·simp only [pw]
    go_wp2_with fail
    go_round
    case rel=>exact ⟨3,by omega,by go_num,by go_num,.inr (by simp at h ⊢;omega)⟩
    case measure=>simp [intOf]
   ·simp only [pw]
    go_wp2_with fail
    go_round
    case rel=>exact ⟨4,by omega,by go_num,by go_num,.inr (by simp at h ⊢;omega)⟩
    case measure=>simp [intOf]
   ·have HE:=iH (Mt (f:=f) (k:=4) (by omega) hf.out (.inr rfl))
    simp only [pw] at HE ⊢;go_wp2_with fail;go_ret;exact ⟨Bm HE.out.symm,rfl⟩
  ·have HE:=iH (Mt hk hf.out (.inl h))
   have h':f≤(k:Int):=by omega
   have hp:pw k≤16:=by
    have hc:k=0∨k=1∨k=2∨k=3∨k=4:=by omega
    rcases hc with rfl | rfl | rfl | rfl | rfl <;> decide
   clear h;generalize pw k=P at *;go_wp2_with fail;go_ret;exact ⟨Bm (by first | (rw [HE.out];done) | (rw [HE.out];omega)),rfl⟩
def bgR (x:Rn) (c:Int):Rn:=if lsB x c=true then { x with state:=3,left:=x.want.start } else { x with state:=2,left:=0 }
def flF (f:Int):Int:=if f<1000 then wrap64 (f+1) else f
def dyR (x:Rn):Rn:={ x with state:=5,left:=bkB (flF x.falls),falls:=flF x.falls }
theorem Od (x:Rn) (c:Int) (g:Bool) (L:Nat) (w:World) (hX:Blk L (Bw x c g) 152 w) :
  Calls Tryz.prog 173 #[.pointer (some ⟨L,0,none⟩)] w fun e w'=>e=.returned .nilFunc∧Blk L (Bw (bgR x c) c g) 152 w'∧Below L w w':=by
 have HX:=iH hX;clear hX;go_enter Tryz.func173,Tryz.ntmps173;go_upto_region 1 with fail;refine wp_region_held_drew (S:=fun wy=>Blk L (Bw x c g) 152 wy) (by kernel_rfl) (HX.out.drew) (fun hS=>?_);refine tz 0 3 (.pointer (some ⟨L,0,none⟩)) rfl hS ?_;simp only [pX];refine tz 1 4 (.pointer (some ⟨L,0,none⟩)) rfl hS ?_;simp only [pX];refine tz 2 5 (.pointer (some ⟨L,0,none⟩)) rfl hS ?_;simp only [pX];refine tk 3 ⟨some 6,_,_,_,_,none⟩ (.agg (rrA x)) rfl (yieldsIf_load_mid (by rfl) _ _ rfl L (0) rfl (rrL x) _ (fun _ h=>Blk.sub11 h) Tryz.underlying111 rfl Ci) hS ?_;simp only [pX];refine tz 4 7 (.pointer (some ⟨L,0,none⟩)) rfl hS ?_;simp only [pX];refine tz 5 8 (.pointer (some ⟨L,0,none⟩)) rfl hS ?_;simp only [pX];refine tz 6 9 (.pointer (some ⟨L,11,none⟩)) rfl hS ?_;simp only [pX];refine ty 7 ⟨some 10,_,_,_,_,none⟩ (.int .i64 c) rfl (by rfl) ?_ hS ?_
 ·intro wy hy
  have h0:=hy.cell (o:=11) (v:=.int .i64 c) rfl;clear hy;go_simp
 simp only [pX];refine rd1 8 ⟨some 11,_,_,_,_,none⟩ rfl (fun K hK=>?_);go_simp;refine (Gy x c _).mono ?_;rintro e w1 ⟨rfl,hb1⟩;have HX1:=iH (hS.below hb1 hS.lt);have hB1:Below L w w1:=((Below.refl L w).drew.trans (hb1.mono (lE hS.lt)));clear hb1;refine hK.out _ _ HX1 (fun hS=>?_);clear hK K;refine td ?_;clear hS
 cases hl:lsB x c with
 | true =>
  have HG:Hid (bgR x c={ x with state:=3,left:=x.want.start }):=if_pos hl;clear hl;go_upto_region 2 with fail;refine wp_region_held_drew (S:=fun wy=>wy.cell? ⟨L,4,none⟩=some (.int .i64 x.want.start)) (by kernel_rfl) ((by simpa using HX1.out.cell (o:=4) (v:=.int .i64 x.want.start) rfl)) (fun hS=>?_);refine tz 0 12 (.pointer (some ⟨L,0,none⟩)) rfl hS ?_;simp only [pX];refine tz 1 13 (.pointer (some ⟨L,0,none⟩)) rfl hS ?_;simp only [pX];refine tz 2 14 (.pointer (some ⟨L,0,none⟩)) rfl hS ?_;simp only [pX];refine tz 3 15 (.pointer (some ⟨L,0,none⟩)) rfl hS ?_;simp only [pX];refine tz 4 16 (.pointer (some ⟨L,0,none⟩)) rfl hS ?_;simp only [pX];refine tz 5 17 (.pointer (some ⟨L,0,none⟩)) rfl hS ?_;simp only [pX];refine tz 6 18 (.pointer (some ⟨L,0,none⟩)) rfl hS ?_;simp only [pX];refine tz 7 19 (.pointer (some ⟨L,4,none⟩)) rfl hS ?_;simp only [pX];refine ty 8 ⟨some 20,_,_,_,_,none⟩ (.int .i64 x.want.start) rfl (by rfl) ?_ hS ?_
  ·intro wy hy
   have h0:=hy;clear hy;go_simp
  simp only [pX];refine rd1 9 ⟨some 21,_,_,_,_,none⟩ rfl (fun K hK=>?_);go_simp;refine (Fd x c g L 3 x.want.start _ (HX1.out.drew)).mono ?_;rintro e w2 ⟨rfl,hX2,hb2⟩;have HX2:=iH hX2;clear hX2;refine hK.out _ _ (by first | exact HX2.out.cell rfl | (simpa using HX2.out.cell (o:=4) (v:=.int .i64 x.want.start) rfl)) (fun hS=>?_);clear hK K;refine td ?_;clear hS;have hB2:=hB1.trans ((Below.refl L w1).drew.trans hb2);clear hb2 hB1;go_wp2_with fail;go_ret;rw [HG.out];exact ⟨rfl,HX2,hB2⟩
 | false =>
  have HG:Hid (bgR x c={ x with state:=2,left:=0 }):=if_neg (by rw [hl];simp);clear hl;go_wp2_with fail;refine (Fd x c g L 2 0 _ HX1).mono ?_;rintro e w2 ⟨rfl,hX2,hb2⟩;have HX2:=iH hX2;have hB2:=hB1.trans hb2;clear hX2 hb2 hB1;go_wp2_with fail;go_ret;rw [HG.out];exact ⟨rfl,HX2,hB2⟩
theorem Km (x:Rn) (c:Int) (g:Bool) (L:Nat) (w:World) (hX:Blk L (Bw x c g) 152 w) :
  Calls Tryz.prog 188 #[.pointer (some ⟨L,0,none⟩)] w fun e w'=>e=.returned .nilFunc∧Blk L (Bw { x with state:=4,left:=x.want.dies } c g) 152 w'∧Below L w w':=by
 have HX:=iH hX;clear hX;go_enter Tryz.func188,Tryz.ntmps188;go_upto_region 1 with fail;refine wp_region_held_drew (S:=fun wy=>wy.cell? ⟨L,5,none⟩=some (.int .i64 x.want.dies)) (by kernel_rfl) ((by simpa using HX.out.cell (o:=5) (v:=.int .i64 x.want.dies) rfl)) (fun hS=>?_);refine tz 0 3 (.pointer (some ⟨L,0,none⟩)) rfl hS ?_;simp only [pX];refine tz 1 4 (.pointer (some ⟨L,0,none⟩)) rfl hS ?_;simp only [pX];refine tz 2 5 (.pointer (some ⟨L,0,none⟩)) rfl hS ?_;simp only [pX];refine tz 3 6 (.pointer (some ⟨L,0,none⟩)) rfl hS ?_;simp only [pX];refine tz 4 7 (.pointer (some ⟨L,0,none⟩)) rfl hS ?_;simp only [pX];refine tz 5 8 (.pointer (some ⟨L,0,none⟩)) rfl hS ?_;simp only [pX];refine tz 6 9 (.pointer (some ⟨L,0,none⟩)) rfl hS ?_;simp only [pX];refine tz 7 10 (.pointer (some ⟨L,5,none⟩)) rfl hS ?_;simp only [pX];refine ty 8 ⟨some 11,_,_,_,_,none⟩ (.int .i64 x.want.dies) rfl (by rfl) ?_ hS ?_
 ·intro wy hy
  have h0:=hy;clear hy;go_simp
 simp only [pX];refine rd1 9 ⟨some 12,_,_,_,_,none⟩ rfl (fun K hK=>?_);go_simp;refine (Fd x c g L 4 x.want.dies _ (HX.out.drew)).mono ?_;rintro e w2 ⟨rfl,hX2,hb2⟩;have HX2:=iH hX2;clear hX2;refine hK.out _ _ (by first | exact HX2.out.cell rfl | (simpa using HX2.out.cell (o:=5) (v:=.int .i64 x.want.dies) rfl)) (fun hS=>?_);clear hK K;refine td ?_;clear hS;have hB2:Below L w w2:=(Below.refl L w).drew.trans hb2;clear hb2;go_wp2_with fail;go_ret;exact ⟨rfl,HX2,hB2⟩
def unN (x:Rn):Option Nat:=if x.state=6 then some 154 else if alB x.state=true then none else some 155
def unR (x:Rn):Rn:=if x.state=6 then x else if alB x.state=true then { x with state:=6,left:=x.want.grace } else x
theorem Ku (x:Rn) (c:Int) (g:Bool) (L:Nat) (w:World) (hX:Blk L (Bw x c g) 152 w) :
  Calls Tryz.prog 141 #[.pointer (some ⟨L,0,none⟩)] w fun e w'=>e=.returned (fv (unN x))∧Blk L (Bw (unR x) c g) 152 w'∧Below L w w':=by
 have HX:=iH hX;have k7:w.cell? ⟨L,7,none⟩=some (.int .i64 x.state):=hX.cell rfl;clear hX;by_cases h6:x.state=6
 ·have HN:Hid (unN x=some 154):=if_pos h6
  have HR:Hid (unR x=x):=if_pos h6;go_enter Tryz.func141,Tryz.ntmps141;go_wp2_with fail;go_ret;rw [HN.out,HR.out];exact ⟨rfl,HX,Below.refl _ _⟩
 have HN6:Hid (unN x=if alB x.state=true then none else some 155):=if_neg h6;have HR6:Hid (unR x=if alB x.state=true then { x with state:=6,left:=x.want.grace } else x):=if_neg h6;go_enter Tryz.func141,Tryz.ntmps141;go_wp2_with (first | (refine wpList_load_mid rfl 111 _ rfl L 0 rfl (rrL x) _ HX.out.sub11 Tryz.underlying111 rfl Ci ?_));refine (Gi x _).mono ?_;rintro e w1 ⟨rfl,hb1⟩;have HX1:=qBk HX hb1;have hB1:Below L w w1:=hb1.mono (lE HX.out.lt);clear hb1 k7 HX h6
 cases ha:alB x.state with
 | true =>
  rw [ha,if_pos rfl] at HN6 HR6;clear ha;go_upto_region 4 with fail;refine wp_region_held_drew (S:=fun wy=>wy.cell? ⟨L,6,none⟩=some (.int .i64 x.want.grace)) (by kernel_rfl) ((by simpa using HX1.out.cell (o:=6) (v:=.int .i64 x.want.grace) rfl)) (fun hS=>?_);refine tz 0 16 (.pointer (some ⟨L,0,none⟩)) rfl hS ?_;simp only [pX];refine tz 1 17 (.pointer (some ⟨L,0,none⟩)) rfl hS ?_;simp only [pX];refine tz 2 18 (.pointer (some ⟨L,0,none⟩)) rfl hS ?_;simp only [pX];refine tz 3 19 (.pointer (some ⟨L,0,none⟩)) rfl hS ?_;simp only [pX];refine tz 4 20 (.pointer (some ⟨L,0,none⟩)) rfl hS ?_;simp only [pX];refine tz 5 21 (.pointer (some ⟨L,0,none⟩)) rfl hS ?_;simp only [pX];refine tz 6 22 (.pointer (some ⟨L,0,none⟩)) rfl hS ?_;simp only [pX];refine tz 7 23 (.pointer (some ⟨L,6,none⟩)) rfl hS ?_;simp only [pX];refine ty 8 ⟨some 24,_,_,_,_,none⟩ (.int .i64 x.want.grace) rfl (by rfl) ?_ hS ?_
  ·intro wy hy
   have h0:=hy;clear hy;go_simp
  simp only [pX];refine rd1 9 ⟨some 25,_,_,_,_,none⟩ rfl (fun K hK=>?_);go_simp;refine (Fd x c g L 6 x.want.grace _ (HX1.out.drew)).mono ?_;rintro e w2 ⟨rfl,hX2,hb2⟩;have HX2:=iH hX2;clear hX2;refine hK.out _ _ (by first | exact HX2.out.cell rfl | (simpa using HX2.out.cell (o:=6) (v:=.int .i64 x.want.grace) rfl)) (fun hS=>?_);clear hK K;refine td ?_;clear hS;have hB2:=hB1.trans ((Below.refl L w1).drew.trans hb2);clear hb2 hB1;go_wp2_with fail;go_ret;rw [HN6.out,HR6.out];exact ⟨rfl,HX2,hB2⟩
 | false =>
  rw [ha,if_neg (by simp)] at HN6 HR6;clear ha;go_wp2_with fail;go_ret;rw [HN6.out,HR6.out];exact ⟨rfl,HX1,hB1⟩
def Xc (x:Rn):Rn:=if x.left=1 then dyR x else x
theorem Rw (x:Rn) (c:Int) (g:Bool) (L:Nat) (w:World) (hX:Blk L (Bw x c g) 152 w) :
  Calls Tryz.prog 189 #[.pointer (some ⟨L,0,none⟩)] w fun e w'=>e=.returned .nilFunc∧Blk L (Bw (Xc x) c g) 152 w'∧Below L w w':=by
 have HX:=iH hX;have k8:w.cell? ⟨L,8,none⟩=some (.int .i64 x.left):=hX.cell rfl;have k9:w.cell? ⟨L,9,none⟩=some (.int .i64 x.falls):=hX.cell rfl;have f9:w.frozen? ⟨L,9,none⟩=false:=hX.frozen _;clear hX;by_cases h1:x.left=1
 case neg =>
  have HR:Hid (Xc x=x):=if_neg h1;go_enter Tryz.func189,Tryz.ntmps189;go_wp2_with fail;go_ret;rw [HR.out];exact ⟨rfl,HX,Below.refl _ _⟩
 have HR:Hid (Xc x=dyR x):=if_pos h1;by_cases hf:x.falls<1000
 ·have HF:Hid (flF x.falls=wrap64 (x.falls+1)):=if_pos hf
  have HX5:Hid (Blk L (Bw { x with falls:=wrap64 (x.falls+1) } c g) 152 (w.setCell ⟨L,9,none⟩ (.int .i64 (wrap64 (x.falls+1))))):=HX.out.set 9 _;have hb5:Below L w (w.setCell ⟨L,9,none⟩ (.int .i64 (wrap64 (x.falls+1)))):=Gl _ _ _ _;have HY:Hid (dyR x={ x with state:=5,left:=bkB (wrap64 (x.falls+1)),falls:=wrap64 (x.falls+1) }):=by show _=_;unfold dyR;rw [HF.out]
  clear HF;go_enter Tryz.func189,Tryz.ntmps189;go_upto_region 5 with fail;generalize wrap64 (x.falls+1)=F at *;generalize w.setCell ⟨L,9,none⟩ (.int .i64 F)=w5 at *;clear k8 k9 f9 h1 hf;refine wp_region_held_drew (S:=fun wy=>wy.cell? ⟨L,9,none⟩=some (.int .i64 F)) (by kernel_rfl) ((by simpa using HX5.out.cell (o:=9) (v:=.int .i64 F) rfl)) (fun hS=>?_);refine tz 0 24 (.pointer (some ⟨L,0,none⟩)) rfl hS ?_;simp only [pX];refine tz 1 25 (.pointer (some ⟨L,0,none⟩)) rfl hS ?_;simp only [pX];refine tz 2 26 (.pointer (some ⟨L,0,none⟩)) rfl hS ?_;simp only [pX];refine tz 3 27 (.pointer (some ⟨L,0,none⟩)) rfl hS ?_;simp only [pX];refine tz 4 28 (.pointer (some ⟨L,0,none⟩)) rfl hS ?_;simp only [pX];refine tz 5 29 (.pointer (some ⟨L,0,none⟩)) rfl hS ?_;simp only [pX];refine tz 6 30 (.pointer (some ⟨L,9,none⟩)) rfl hS ?_;simp only [pX];refine ty 7 ⟨some 31,_,_,_,_,none⟩ (.int .i64 F) rfl (by rfl) ?_ hS ?_
  ·intro wy hy
   have h0:=hy;clear hy;go_simp
  simp only [pX];refine rd1 8 ⟨some 32,_,_,_,_,none⟩ rfl (fun K hK=>?_);go_simp;refine (La F _).mono ?_;rintro e w1 ⟨rfl,rfl⟩;refine hK.out _ _ hS (fun hS=>?_);clear hK K;refine rd1 9 ⟨some 33,_,_,_,_,none⟩ rfl (fun K hK=>?_);go_simp;refine (Fd { x with falls:=F } c g L 5 (bkB F) _ (HX5.out.drew)).mono ?_;rintro e w2 ⟨rfl,hX2,hb2⟩;have HX2:=iH hX2;clear hX2;refine hK.out _ _ (by first | exact HX2.out.cell rfl | (simpa using HX2.out.cell (o:=9) (v:=.int .i64 F) rfl)) (fun hS=>?_);clear hK K;refine td ?_;clear hS;have hB2:=hb5.trans ((Below.refl L w5).drew.trans hb2);clear hb2 hb5;go_wp2_with fail;go_ret;rw [HR.out,HY.out];exact ⟨rfl,HX2,hB2⟩
 ·have HF:Hid (flF x.falls=x.falls):=if_neg hf
  have hf':1000≤x.falls:=by omega
  have HX5:=HX;have HY:Hid (dyR x={ x with state:=5,left:=bkB x.falls }):=by show _=_;unfold dyR;rw [HF.out]
  clear HF hf;go_enter Tryz.func189,Tryz.ntmps189;go_upto_region 5 with fail;clear k8 k9 f9 h1 hf';refine wp_region_held_drew (S:=fun wy=>wy.cell? ⟨L,9,none⟩=some (.int .i64 x.falls)) (by kernel_rfl) ((by simpa using HX5.out.cell (o:=9) (v:=.int .i64 x.falls) rfl)) (fun hS=>?_);refine tz 0 24 (.pointer (some ⟨L,0,none⟩)) rfl hS ?_;simp only [pX];refine tz 1 25 (.pointer (some ⟨L,0,none⟩)) rfl hS ?_;simp only [pX];refine tz 2 26 (.pointer (some ⟨L,0,none⟩)) rfl hS ?_;simp only [pX];refine tz 3 27 (.pointer (some ⟨L,0,none⟩)) rfl hS ?_;simp only [pX];refine tz 4 28 (.pointer (some ⟨L,0,none⟩)) rfl hS ?_;simp only [pX];refine tz 5 29 (.pointer (some ⟨L,0,none⟩)) rfl hS ?_;simp only [pX];refine tz 6 30 (.pointer (some ⟨L,9,none⟩)) rfl hS ?_;simp only [pX];refine ty 7 ⟨some 31,_,_,_,_,none⟩ (.int .i64 x.falls) rfl (by rfl) ?_ hS ?_
  ·intro wy hy
   have h0:=hy;clear hy;go_simp
  simp only [pX];refine rd1 8 ⟨some 32,_,_,_,_,none⟩ rfl (fun K hK=>?_);go_simp;refine (La x.falls _).mono ?_;rintro e w1 ⟨rfl,rfl⟩;refine hK.out _ _ hS (fun hS=>?_);clear hK K;refine rd1 9 ⟨some 33,_,_,_,_,none⟩ rfl (fun K hK=>?_);go_simp;refine (Fd x c g L 5 (bkB x.falls) _ (HX5.out.drew)).mono ?_;rintro e w2 ⟨rfl,hX2,hb2⟩;have HX2:=iH hX2;clear hX2;refine hK.out _ _ (by first | exact HX2.out.cell rfl | (simpa using HX2.out.cell (o:=9) (v:=.int .i64 x.falls) rfl)) (fun hS=>?_);clear hK K;refine td ?_;clear hS;have hB2:Below L w w2:=(Below.refl L w).drew.trans hb2;clear hb2;go_wp2_with fail;go_ret;rw [HR.out,HY.out];exact ⟨rfl,HX2,hB2⟩
abbrev stV:Array Value:=#[.func (.func 171) #[] #[],.func (.func 172) #[] #[],.func (.func 173) #[] #[],.func (.func 174) #[] #[],.func (.func 175) #[] #[],.func (.func 176) #[] #[],.func (.func 154) #[] #[]]
def stF (s:Int):Nat:=if s=1 then 172 else if s=2 then 173 else if s=3 then 174 else if s=4 then 175 else if s=5 then 176 else if s=6 then 154 else 171
theorem Tg:(Tryz.prog.info? 169).map (·.size)=some 7:=by kernel_rfl
theorem dS:Nv 169 7:=⟨_,Tryz.underlying169,rfl,Tg⟩
theorem Ou (w:World) :
  Calls Tryz.prog 153 #[] w (Rt (.agg stV) w):=by
 go_enter Tryz.func153,Tryz.ntmps153;have hza:=Blk.alloc w #[.nilFunc,.nilFunc,.nilFunc,.nilFunc,.nilFunc,.nilFunc,.nilFunc] 169;have HTS:Hid ((w.alloc (Obj.cells #[.nilFunc,.nilFunc,.nilFunc,.nilFunc,.nilFunc,.nilFunc,.nilFunc] 169)).there w.heap.size 0 7):=hza.there;obtain ⟨w4,HW4⟩:∃ w4,Hid (w4=(w.alloc (Obj.cells #[.nilFunc,.nilFunc,.nilFunc,.nilFunc,.nilFunc,.nilFunc,.nilFunc] 169)).setCells w.heap.size 0 stV.toList):=⟨_,rfl⟩;have HK4:Hid (Blk w.heap.size stV 169 w4):=by
  show Blk _ _ _ _
  rw [HW4.out];exact hza.setAll stV rfl
 have hbx:Below w.heap.size w w4:=by
  rw [HW4.out];exact Aa nL _ _ _ ((Below.refl _ w).alloc nL _)
 clear hza;go_wp2_with (first | (refine Ab rfl 169 _ _ rfl w.heap.size 0 stV rfl rfl HTS Tg (by simp [Value.oneCell']) w4 HW4 ?_));exact bodyPost_ret (Ai rfl _ _ w.heap.size stV.toList _ rfl HK4.out.rangeA Tryz.underlying169 rfl Tg) rfl ⟨rfl,hbx⟩
theorem Tt (s:Int) (w:World) :
  Calls Tryz.prog 140 #[.int .i64 s] w (Rt (.func (.func (stF s)) #[] #[]) w):=by
 have hi0:∀ w,(Instr.index 169 (.agg stV) (.int .i64 0)).run Tryz.prog w=.ok (.func (.func 171) #[] #[]) w:=fun w=>by kernel_rfl
 have hi1:∀ w,(Instr.index 169 (.agg stV) (.int .i64 1)).run Tryz.prog w=.ok (.func (.func 172) #[] #[]) w:=fun w=>by kernel_rfl
 have hi2:∀ w,(Instr.index 169 (.agg stV) (.int .i64 2)).run Tryz.prog w=.ok (.func (.func 173) #[] #[]) w:=fun w=>by kernel_rfl
 have hi3:∀ w,(Instr.index 169 (.agg stV) (.int .i64 3)).run Tryz.prog w=.ok (.func (.func 174) #[] #[]) w:=fun w=>by kernel_rfl
 have hi4:∀ w,(Instr.index 169 (.agg stV) (.int .i64 4)).run Tryz.prog w=.ok (.func (.func 175) #[] #[]) w:=fun w=>by kernel_rfl
 have hi5:∀ w,(Instr.index 169 (.agg stV) (.int .i64 5)).run Tryz.prog w=.ok (.func (.func 176) #[] #[]) w:=fun w=>by kernel_rfl
 have hi6:∀ w,(Instr.index 169 (.agg stV) (.int .i64 6)).run Tryz.prog w=.ok (.func (.func 154) #[] #[]) w:=fun w=>by kernel_rfl
 by_cases hs:s=1∨s=2∨s=3∨s=4∨s=5∨s=6
 ·rcases hs with rfl | rfl | rfl | rfl | rfl | rfl
  all_goals
   go_enter Tryz.func140,Tryz.ntmps140;go_wp2_with fail;refine (Kl _ _).mono ?_;rintro e w1 ⟨rfl,rfl⟩;rw [Hw (by omega) (by omega)];go_wp2_with fail;refine (Ou _).mono ?_;rintro e w2 ⟨rfl,hb2⟩;go_wp2_with fail;go_ret;exact ⟨rfl,hb2⟩
 ·have HC:Hid (stF s=171):=by
   show _=_
   unfold stF;rw [if_neg (by omega),if_neg (by omega),if_neg (by omega),if_neg (by omega),if_neg (by omega),if_neg (by omega)]
  have HI:Hid (inR s 1 6=false):=by
   by_cases h:s<1
   ·exact Ks h
   ·exact Kk (by omega)
  clear hs;go_enter Tryz.func140,Tryz.ntmps140;go_wp2_with fail;refine (Kl _ _).mono ?_;rintro e w1 ⟨rfl,rfl⟩;rw [HI.out];go_wp2_with fail;refine (Ou _).mono ?_;rintro e w2 ⟨rfl,hb2⟩;go_wp2_with fail;go_ret;rw [HC.out];exact ⟨rfl,hb2⟩
def stp (f:Nat) (x:Rn) (c:Int) (g:Bool):Option Nat×Rn×Bool :=
 if f=171 then (nxt x none,ctR x,g)
 else if f=172 then (nxt x (some 173),ctR x,g)
 else if f=174 then (nxt x (some 188),ctR x,g)
 else if f=175 then (nxt x (some 189),ctR x,g)
 else if f=176 then (nxt x (some 173),ctR x,g)
 else if f=154 then (nxt x (some 155),ctR x,g)
 else if f=173 then (none,bgR x c,g)
 else if f=188 then (none,{ x with state:=4,left:=x.want.dies },g)
 else if f=189 then (none,Xc x,g)
 else if f=155 then (none,x,true)
 else (unN x,unR x,g)
def Cs (f:Nat):Prop:=f=171∨f=172∨f=174∨f=175∨f=176∨f=154∨f=173∨f=188∨f=189∨f=155∨f=141
def rnk (f:Nat):Nat:=if f=141 then 3 else if f=173∨f=188∨f=189∨f=155 then 1 else 2
def Xr:Option Nat→Nat
 | none=>0
 | some f=>rnk f
theorem Ev (x:Rn) (f:Option Nat):nxt x f=none∨nxt x f=f:=by
 unfold nxt
 split
 ·exact .inl rfl
 ·exact .inr rfl
theorem Zj (x:Rn):unN x=some 154∨unN x=none∨unN x=some 155:=by
 unfold unN
 split
 ·exact .inl rfl
 ·split
  ·exact .inr (.inl rfl)
  ·exact .inr (.inr rfl)
theorem Ql {f:Nat} (hf:Cs f) (x:Rn) (c:Int) (g:Bool):Xr (stp f x c g).1<rnk f∧∀ f',(stp f x c g).1=some f'→Cs f':=by
 rcases hf with rfl | rfl | rfl | rfl | rfl | rfl | rfl | rfl | rfl | rfl | rfl
 ·have e:(stp 171 x c g).1=nxt x none:=rfl
  rw [e];rcases Ev x none with h | h <;> rw [h] <;> exact ⟨by decide,fun f' h=>by cases h⟩
 ·have e:(stp 172 x c g).1=nxt x (some 173):=rfl
  rw [e];rcases Ev x (some 173) with h | h <;> rw [h]
  ·exact ⟨by decide,fun f' h=>by cases h⟩
  ·exact ⟨by decide,fun f' h=>by cases h;unfold Cs;decide⟩
 ·have e:(stp 174 x c g).1=nxt x (some 188):=rfl
  rw [e];rcases Ev x (some 188) with h | h <;> rw [h]
  ·exact ⟨by decide,fun f' h=>by cases h⟩
  ·exact ⟨by decide,fun f' h=>by cases h;unfold Cs;decide⟩
 ·have e:(stp 175 x c g).1=nxt x (some 189):=rfl
  rw [e];rcases Ev x (some 189) with h | h <;> rw [h]
  ·exact ⟨by decide,fun f' h=>by cases h⟩
  ·exact ⟨by decide,fun f' h=>by cases h;unfold Cs;decide⟩
 ·have e:(stp 176 x c g).1=nxt x (some 173):=rfl
  rw [e];rcases Ev x (some 173) with h | h <;> rw [h]
  ·exact ⟨by decide,fun f' h=>by cases h⟩
  ·exact ⟨by decide,fun f' h=>by cases h;unfold Cs;decide⟩
 ·have e:(stp 154 x c g).1=nxt x (some 155):=rfl
  rw [e];rcases Ev x (some 155) with h | h <;> rw [h]
  ·exact ⟨by decide,fun f' h=>by cases h⟩
  ·exact ⟨by decide,fun f' h=>by cases h;unfold Cs;decide⟩
 ·exact ⟨show 0<_ by decide,fun f' h=>by cases h⟩
 ·exact ⟨show 0<_ by decide,fun f' h=>by cases h⟩
 ·exact ⟨show 0<_ by decide,fun f' h=>by cases h⟩
 ·exact ⟨show 0<_ by decide,fun f' h=>by cases h⟩
 ·have e:(stp 141 x c g).1=unN x:=rfl
  rw [e];rcases Zj x with h | h | h <;> rw [h]
  ·exact ⟨by decide,fun f' h=>by cases h;unfold Cs;decide⟩
  ·exact ⟨by decide,fun f' h=>by cases h⟩
  ·exact ⟨by decide,fun f' h=>by cases h;unfold Cs;decide⟩
theorem Vr {f:Nat} (hf:Cs f) (x:Rn) (c:Int) (g:Bool) (L:Nat) (w:World) (hX:Blk L (Bw x c g) 152 w) :
  Calls Tryz.prog f #[.pointer (some ⟨L,0,none⟩)] w fun e w'=>e=.returned (fv (stp f x c g).1)∧Blk L (Bw (stp f x c g).2.1 c (stp f x c g).2.2) 152 w'∧Below L w w':=by
 rcases hf with rfl | rfl | rfl | rfl | rfl | rfl | rfl | rfl | rfl | rfl | rfl
 ·exact Nt x c g L w hX
 ·exact Qa x c g L w hX
 ·exact Nu x c g L w hX
 ·exact Oh x c g L w hX
 ·exact Ll x c g L w hX
 ·exact Pv x c g L w hX
 ·exact Od x c g L w hX
 ·exact Km x c g L w hX
 ·exact Rw x c g L w hX
 ·exact Ty x c g L w hX
 ·exact Ku x c g L w hX
theorem Mf {f:Nat} (hf:Cs f):∀ args w,(callFunc f args).run Tryz.prog w=.ok (.enter f args) w:=by
 rcases hf with rfl | rfl | rfl | rfl | rfl | rfl | rfl | rfl | rfl | rfl | rfl
 ·exact enters_of Tryz.func171 (by kernel_rfl) rfl
 ·exact enters_of Tryz.func172 (by kernel_rfl) rfl
 ·exact enters_of Tryz.func174 (by kernel_rfl) rfl
 ·exact enters_of Tryz.func175 (by kernel_rfl) rfl
 ·exact enters_of Tryz.func176 (by kernel_rfl) rfl
 ·exact enters_of Tryz.func154 (by kernel_rfl) rfl
 ·exact enters_of Tryz.func173 (by kernel_rfl) rfl
 ·exact enters_of Tryz.func188 (by kernel_rfl) rfl
 ·exact enters_of Tryz.func189 (by kernel_rfl) rfl
 ·exact enters_of Tryz.func155 (by kernel_rfl) rfl
 ·exact enters_of Tryz.func141 (by kernel_rfl) rfl
theorem Zk (s:Int):Cs (stF s):=by
 unfold stF
 split
 ·unfold Cs;decide
 ·split
  ·unfold Cs;decide
  ·split
   ·unfold Cs;decide
   ·split
    ·unfold Cs;decide
    ·split
     ·unfold Cs;decide
     ·split
      ·unfold Cs;decide
      ·unfold Cs;decide
def Ep (c:Int):Nat→Option Nat→Rn→Bool→Rn×Bool
 | _,none,x,g=>(x,g)
 | 0,some _,x,g=>(x,g)
 | n+1,some f,x,g=>Ep c n (stp f x c g).1 (stp f x c g).2.1 (stp f x c g).2.2
def Jd (x:Rn) (wanted:Bool):Nat:=if wanted=true then stF x.state else 141
def cG:Value→Nat
 | .func (.func f) _ _=>rnk f
 | _=>0
theorem Vj (st:Option Nat):cG (fv st)=Xr st:=by cases st <;> rfl
theorem Ys (x:Rn) (c:Int) (g:Bool) (L:Nat) (wanted:Bool) (w:World) (hX:Blk L (Bw x c g) 152 w) :
  Calls Tryz.prog 129 #[.pointer (some ⟨L,0,none⟩),.bool wanted] w fun e w'=>e=.returned (.tuple #[])∧Blk L (Bw (Ep c 3 (some (Jd x wanted)) x g).1 c (Ep c 3 (some (Jd x wanted)) x g).2) 152 w'∧Below L w w':=by
 have HX:=iH hX;have k7:w.cell? ⟨L,7,none⟩=some (.int .i64 x.state):=hX.cell rfl;clear hX;have HF:Hid (Cs (Jd x wanted)):=by
  show Cs _
  unfold Jd
  split
  ·exact Zk _
  ·unfold Cs;decide
 have HV:Hid (Jd x wanted=if wanted=true then stF x.state else 141):=rfl;obtain ⟨FIN,hfin⟩:∃ r,r=Ep c 3 (some (Jd x wanted)) x g:=⟨_,rfl⟩;have HFIN:=iH hfin;rw [← hfin];clear hfin;have hq0:∀ w,(binOp .neq 163 .nilFunc .nilFunc).run Tryz.prog w=.ok (.bool false) w:=fun w=>by kernel_rfl
 have hq1:∀ (f:Nat) w,(binOp .neq 163 (.func (.func f) #[] #[]) .nilFunc).run Tryz.prog w=.ok (.bool true) w:=fun f w=>by kernel_rfl
 go_enter Tryz.func129,Tryz.ntmps129;go_wp2_with fail;refine (Tt x.state _).mono ?_;rintro e w1 ⟨rfl,hb1⟩;have HX1:=qBk HX hb1;have hB1:Below L w w1:=hb1.mono (lE HX.out.lt);clear hb1 k7 HX;generalize Jd x wanted=f0 at *
 cases wanted with
 | true =>
  rw [if_pos rfl] at HV;rw [← HV.out];clear HV;go_wp2_with fail;go_loopw [4] (fun v wr=>∃ (n:Nat) (st:Option Nat) (y:Rn) (h:Bool),v=fv st∧Hid (Blk L (Bw y c h) 152 wr)∧Below L w wr∧Hid (Xr st≤n∧(∀ f,st=some f→Cs f)∧Ep c n st y h=FIN)) (fun v _=>cG v)
  case atStart=>exact ⟨3,some f0,x,g,rfl,HX1,hB1,by show rnk _≤3;unfold rnk;split <;> (try split) <;> decide,fun f hf=>by cases hf;exact HF.out,HFIN.out.symm⟩
  case round =>
   clear HX1 hB1;obtain ⟨n,st,y,h,rfl,HXr,hBr,HR⟩:=hrel
   cases st with
   | none =>
    have HE:Hid ((y,h)=FIN):=by have:=HR.out.2.2;cases n <;> exact this
    simp only [fv];go_wp2_with fail;have e1:y=FIN.1:=by rw [← HE.out]
    have e2:h=FIN.2:=by rw [← HE.out]
    rw [← e1,← e2];exact bodyPost_end (results_none rfl _ _ _) rfl ⟨rfl,HXr,hBr⟩
   | some f =>
    have hf:=HR.out.2.1 f rfl;have HS:=iH (Vr hf y c h L wr HXr);have HK:=iH (Ql hf y c h);have heg:=Mf hf;have HR2:Hid (Ep c (n - 1) (stp f y c h).1 (stp f y c h).2.1 (stp f y c h).2.2=FIN∧Xr (stp f y c h).1≤n - 1):=by
     have h0:rnk f≤n:=HR.out.1;have h1:=HK.out.1;obtain ⟨m,rfl⟩:∃ m,n=m+1:=⟨n - 1,by omega⟩;exact ⟨HR.out.2.2,by simp;omega⟩
    clear hf HR;generalize stp f y c h=r at *;simp only [fv];go_wp2_with fail;refine HS.out.mono ?_;rintro e w3 ⟨rfl,hX3,hb3⟩;have HX3:=iH hX3;have hB3:=hBr.trans hb3;clear hX3 hb3 HS heg;generalize hv:fv r.1=v;have HVV:=iH hv;clear hv;go_wp2_with fail;go_roundw
    case rel=>exact ⟨n - 1,r.1,r.2.1,r.2.2,HVV.out.symm,HX3,hB3,HR2.out.2,HK.out.2,HR2.out.1⟩
    case measure =>
     rw [← HVV.out,Vj];exact HK.out.1
 | false =>
  rw [if_neg (by simp)] at HV;go_wp2_with fail;rw [← HV.out];clear HV;go_loopw [4] (fun v wr=>∃ (n:Nat) (st:Option Nat) (y:Rn) (h:Bool),v=fv st∧Hid (Blk L (Bw y c h) 152 wr)∧Below L w wr∧Hid (Xr st≤n∧(∀ f,st=some f→Cs f)∧Ep c n st y h=FIN)) (fun v _=>cG v)
  case atStart=>exact ⟨3,some f0,x,g,rfl,HX1,hB1,by show rnk _≤3;unfold rnk;split <;> (try split) <;> decide,fun f hf=>by cases hf;exact HF.out,HFIN.out.symm⟩
  case round =>
   clear HX1 hB1;obtain ⟨n,st,y,h,rfl,HXr,hBr,HR⟩:=hrel
   cases st with
   | none =>
    have HE:Hid ((y,h)=FIN):=by have:=HR.out.2.2;cases n <;> exact this
    simp only [fv];go_wp2_with fail;have e1:y=FIN.1:=by rw [← HE.out]
    have e2:h=FIN.2:=by rw [← HE.out]
    rw [← e1,← e2];exact bodyPost_end (results_none rfl _ _ _) rfl ⟨rfl,HXr,hBr⟩
   | some f =>
    have hf:=HR.out.2.1 f rfl;have HS:=iH (Vr hf y c h L wr HXr);have HK:=iH (Ql hf y c h);have heg:=Mf hf;have HR2:Hid (Ep c (n - 1) (stp f y c h).1 (stp f y c h).2.1 (stp f y c h).2.2=FIN∧Xr (stp f y c h).1≤n - 1):=by
     have h0:rnk f≤n:=HR.out.1;have h1:=HK.out.1;obtain ⟨m,rfl⟩:∃ m,n=m+1:=⟨n - 1,by omega⟩;exact ⟨HR.out.2.2,by simp;omega⟩
    clear hf HR;generalize stp f y c h=r at *;simp only [fv];go_wp2_with fail;refine HS.out.mono ?_;rintro e w3 ⟨rfl,hX3,hb3⟩;have HX3:=iH hX3;have hB3:=hBr.trans hb3;clear hX3 hb3 HS heg;generalize hv:fv r.1=v;have HVV:=iH hv;clear hv;go_wp2_with fail;go_roundw
    case rel=>exact ⟨n - 1,r.1,r.2.1,r.2.2,HVV.out.symm,HX3,hB3,HR2.out.2,HK.out.2,HR2.out.1⟩
    case measure =>
     rw [← HVV.out,Vj];exact HK.out.1
end Go.Proofs.YtkiloaiffopllaaGreat
