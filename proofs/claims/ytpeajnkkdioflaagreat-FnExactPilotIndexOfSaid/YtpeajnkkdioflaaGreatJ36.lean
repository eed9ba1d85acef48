import Derived.Test.YtpeajnkkdioflaaGreatJ35
import Derived.Test.YtpeajnkkdioflaaGreatJ13
set_option maxHeartbeats 4000000
set_option maxRecDepth 100000
namespace Go.Proofs.YtpeajnkkdioflaaGreat
open Go.RowKit Go.WideMaps Go.Maps Go.Sort
theorem Cc {w w':World} {row:Option Nat} (h:Below w.heap.size w w'):w.grownBy w' row:=⟨h.os,h.tape,h.output,h.size,fun k hk _=>h.block k hk⟩
theorem Vv (w:World):(zeroValue 125).run Tryz.prog w=.ok (vCn Dm) w:=by kernel_rfl
theorem Bf {B b:Nat} {a w:World} (h:Below B a w) (hb:B≤b) (o:Nat) (v:Value):Below B a (w.setCell ⟨b,o,none⟩ v):=h.setCell (p:=⟨b,o,none⟩) hb v
theorem Tq (c:Cpy) (ae:Option Addr) (ce:Nat) (xs:List Cnt) (b m:Nat) (w:World) (hM:MapV w (vCn Dm) b m (fCn xs)) (hA:Asc Cnt.service xs) (hm:m≤1000000) (hs:∀ x∈xs,Jt 1000 x) (hc:c.service.size≤20) :
  Calls Tryz.prog 83 #[.map (some b),.agg #[.string c.name,.string c.service,.int .i64 c.rank,.int .i64 c.born,.int .i64 c.room,.int .i64 c.hold,.string c.select,.slice ae c.likes.length ce,.int .i64 c.apart,.string c.near,.string c.fixed,.string c.at_]] w fun e w'=>e=.returned (.tuple #[])∧MapV w' (vCn Dm) b (m+1) (fCn (Bh xs c))∧w.grownBy w' (some b):=by
 obtain ⟨y,hy⟩:∃ y,y=ofC xs c.service:=⟨_,rfl⟩;obtain ⟨_,n0,n1,a0,a1,z0,z1⟩:=Qo hs c.service;rw [← hy] at n0 n1 a0 a1 z0 z1;have HY:=iH hy;have HMW:=iH hM;have hbl:=hM.lt;have HAS:=iH hA;clear hy hM hA hs;have hB1:Below w.heap.size w (w.alloc (Obj.cells #[.string c.name,.string c.service,.int .i64 c.rank,.int .i64 c.born,.int .i64 c.room,.int .i64 c.hold,.string c.select,.slice ae c.likes.length ce,.int .i64 c.apart,.string c.near,.string c.fixed,.string c.at_] 83)):=(Below.refl _ _).alloc nL _;have HK1:=iH (Blk.alloc w #[.string c.name,.string c.service,.int .i64 c.rank,.int .i64 c.born,.int .i64 c.room,.int .i64 c.hold,.string c.select,.slice ae c.likes.length ce,.int .i64 c.apart,.string c.near,.string c.fixed,.string c.at_] 83);go_enter Tryz.func83,Tryz.ntmps83;go_upto_region 1 with fail;generalize w.alloc (Obj.cells #[.string c.name,.string c.service,.int .i64 c.rank,.int .i64 c.born,.int .i64 c.room,.int .i64 c.hold,.string c.select,.slice ae c.likes.length ce,.int .i64 c.apart,.string c.near,.string c.fixed,.string c.at_] 83)=w1 at *;have yl:(Instr.lookup 106 (.map (some b)) (.string c.service) false).run Tryz.prog w1=.ok (.agg #[.string y.service,.int .i64 y.n,.int .i64 y.apart,.int .i64 y.zone]) w1:=by
  have h:=(HMW.out.below hB1).look Tryz.underlying106 (Vv w1) (show c.service.size≤maxLen by unfold maxLen;omega);rw [iX,← HY.out] at h;exact h
 have k1:w1.cell? ⟨w.heap.size,1,none⟩=some (.string c.service):=HK1.out.cell rfl;have k8:w1.cell? ⟨w.heap.size,8,none⟩=some (.int .i64 c.apart):=HK1.out.cell rfl;have HG2:=iH (Blk.alloc w1 #[.string y.service,.int .i64 y.n,.int .i64 y.apart,.int .i64 y.zone] 125);have hB2:Below w.heap.size w (w1.alloc (Obj.cells #[.string y.service,.int .i64 y.n,.int .i64 y.apart,.int .i64 y.zone] 125)):=hB1.alloc hB1.size _;have HK2:=iH (HK1.out.below ((Below.refl w1.heap.size w1).alloc nL (Obj.cells #[.string y.service,.int .i64 y.n,.int .i64 y.apart,.int .i64 y.zone] 125)) HK1.out.lt);have hgl:w.heap.size<w1.heap.size:=HK1.out.lt;go_upto_region 2 with fail;clear yl k1 k8 HK1 hB1;generalize w1.alloc (Obj.cells #[.string y.service,.int .i64 y.n,.int .i64 y.apart,.int .i64 y.zone] 125)=w2 at *;generalize w1.heap.size=g at *;have k1:w2.cell? ⟨w.heap.size,1,none⟩=some (.string c.service):=HK2.out.cell rfl;have f0:w2.cell? ⟨g,0,none⟩=some (.string y.service):=HG2.out.cell rfl;have q0:=HG2.out.frozen 0;go_upto_region 3 with fail;have HG3:Hid (Blk g #[.string c.service,.int .i64 y.n,.int .i64 y.apart,.int .i64 y.zone] 125 (w2.setCell ⟨g,0,none⟩ (.string c.service))):=HG2.out.set 0 _;have HK3:=iH (HK2.out.other (a:=⟨g,0,none⟩) (by show w.heap.size≠g;omega) (.string c.service));have hB3:=Bf hB2 (by omega:w.heap.size≤g) 0 (.string c.service);clear k1 f0 q0 HG2 HK2 hB2;generalize w2.setCell ⟨g,0,none⟩ (.string c.service)=w3 at *;have f1:w3.cell? ⟨g,1,none⟩=some (.int .i64 y.n):=HG3.out.cell rfl;have q1:=HG3.out.frozen 1;go_upto_region 4 with fail;have HG4:Hid (Blk g #[.string c.service,.int .i64 (y.n+1),.int .i64 y.apart,.int .i64 y.zone] 125 (w3.setCell ⟨g,1,none⟩ (.int .i64 (y.n+1)))):=HG3.out.set 1 _;have HK4:=iH (HK3.out.other (a:=⟨g,1,none⟩) (by show w.heap.size≠g;omega) (.int .i64 (y.n+1)));have hB4:=Bf hB3 (by omega:w.heap.size≤g) 1 (.int .i64 (y.n+1));clear f1 q1 HG3 HK3 hB3;generalize w3.setCell ⟨g,1,none⟩ (.int .i64 (y.n+1))=w4 at *;have k8:w4.cell? ⟨w.heap.size,8,none⟩=some (.int .i64 c.apart):=HK4.out.cell rfl;have f2:w4.cell? ⟨g,2,none⟩=some (.int .i64 y.apart):=HG4.out.cell rfl;have q2:=HG4.out.frozen 2;by_cases ha:c.apart=0
 case pos =>
  have HE:=iH ha;have e1:(c.apart == 0)=true:=by rw [ha];rfl
  have e2:decide (c.apart=0)=true:=decide_eq_true ha;have e3:(c.apart == 2)=false:=by rw [ha];rfl
  have e4:decide (c.apart=2)=false:=by rw [ha];rfl
  clear ha;go_upto_region 8 with fail;clear k8 f2 q2;have k1:w4.cell? ⟨w.heap.size,1,none⟩=some (.string c.service):=HK4.out.cell rfl;obtain ⟨w9,hrun,hM9,hg9⟩:=(HMW.out.below hB4).store Tryz.underlying106 (show m<maxLen by unfold maxLen;omega) (s:=c.service) (show c.service.size≤maxLen by unfold maxLen;omega) (.agg #[.string c.service,.int .i64 (y.n+1),.int .i64 y.apart,.int .i64 y.zone]);have HM9:=iH hM9;have HG9:=iH hg9;clear hM9 hg9;go_wp2_with (refine wpList_load_mid rfl 125 _ rfl g 0 rfl [.string c.service,.int .i64 (y.n+1),.int .i64 y.apart,.int .i64 y.zone] _ HG4.out.rangeA Tryz.underlying125 rfl Jf ?_)
  first | go_end0 | ((try simp only [Exit.inBlock,Exit.then]);refine bodyPost_ret (results_none rfl _ _ _) rfl ?_)
  refine ⟨rfl,?_,(Cc hB4).trans HG9.out⟩;rw [Tw HAS.out c,← HY.out];have e9:vCn (Fr c y)=.agg #[.string c.service,.int .i64 (y.n+1),.int .i64 y.apart,.int .i64 y.zone]:=by simp only [vCn,Fr];simp [HE.out]
  rw [e9];exact HM9.out
 by_cases hz:c.apart=2
 case pos =>
  have HE:=iH hz;have e1:(c.apart == 0)=false:=by rw [hz];rfl
  have e2:decide (c.apart=0)=false:=by rw [hz];rfl
  have e3:(c.apart == 2)=true:=by rw [hz];rfl
  have e4:decide (c.apart=2)=true:=decide_eq_true hz;clear ha hz;go_upto_region 6 with fail;have HG5:Hid (Blk g #[.string c.service,.int .i64 (y.n+1),.int .i64 (y.apart+1),.int .i64 y.zone] 125 (w4.setCell ⟨g,2,none⟩ (.int .i64 (y.apart+1)))):=HG4.out.set 2 _;have HK5:=iH (HK4.out.other (a:=⟨g,2,none⟩) (by show w.heap.size≠g;omega) (.int .i64 (y.apart+1)));have hB5:=Bf hB4 (by omega:w.heap.size≤g) 2 (.int .i64 (y.apart+1));clear k8 f2 q2 HG4 HK4 hB4;generalize w4.setCell ⟨g,2,none⟩ (.int .i64 (y.apart+1))=w5 at *;have k8:w5.cell? ⟨w.heap.size,8,none⟩=some (.int .i64 c.apart):=HK5.out.cell rfl;have f3:w5.cell? ⟨g,3,none⟩=some (.int .i64 y.zone):=HG5.out.cell rfl;have q3:=HG5.out.frozen 3;go_upto_region 8 with fail;have HG6:Hid (Blk g #[.string c.service,.int .i64 (y.n+1),.int .i64 (y.apart+1),.int .i64 (y.zone+1)] 125 (w5.setCell ⟨g,3,none⟩ (.int .i64 (y.zone+1)))):=HG5.out.set 3 _;have HK6:=iH (HK5.out.other (a:=⟨g,3,none⟩) (by show w.heap.size≠g;omega) (.int .i64 (y.zone+1)));have hB6:=Bf hB5 (by omega:w.heap.size≤g) 3 (.int .i64 (y.zone+1));clear k8 f3 q3 HG5 HK5 hB5;generalize w5.setCell ⟨g,3,none⟩ (.int .i64 (y.zone+1))=w6 at *;have k1:w6.cell? ⟨w.heap.size,1,none⟩=some (.string c.service):=HK6.out.cell rfl;obtain ⟨w9,hrun,hM9,hg9⟩:=(HMW.out.below hB6).store Tryz.underlying106 (show m<maxLen by unfold maxLen;omega) (s:=c.service) (show c.service.size≤maxLen by unfold maxLen;omega) (.agg #[.string c.service,.int .i64 (y.n+1),.int .i64 (y.apart+1),.int .i64 (y.zone+1)]);have HM9:=iH hM9;have HG9:=iH hg9;clear hM9 hg9;go_wp2_with (refine wpList_load_mid rfl 125 _ rfl g 0 rfl [.string c.service,.int .i64 (y.n+1),.int .i64 (y.apart+1),.int .i64 (y.zone+1)] _ HG6.out.rangeA Tryz.underlying125 rfl Jf ?_)
  first | go_end0 | ((try simp only [Exit.inBlock,Exit.then]);refine bodyPost_ret (results_none rfl _ _ _) rfl ?_)
  refine ⟨rfl,?_,(Cc hB6).trans HG9.out⟩;rw [Tw HAS.out c,← HY.out];have e9:vCn (Fr c y)=.agg #[.string c.service,.int .i64 (y.n+1),.int .i64 (y.apart+1),.int .i64 (y.zone+1)]:=by simp only [vCn,Fr];simp [HE.out]
  rw [e9];exact HM9.out
 have HE:=iH (And.intro ha hz);have e1:(c.apart == 0)=false:=by simpa using ha
 have e2:decide (c.apart=0)=false:=decide_eq_false ha;have e3:(c.apart == 2)=false:=by simpa using hz
 have e4:decide (c.apart=2)=false:=decide_eq_false hz;clear ha hz;go_upto_region 6 with fail;have HG5:Hid (Blk g #[.string c.service,.int .i64 (y.n+1),.int .i64 (y.apart+1),.int .i64 y.zone] 125 (w4.setCell ⟨g,2,none⟩ (.int .i64 (y.apart+1)))):=HG4.out.set 2 _;have HK5:=iH (HK4.out.other (a:=⟨g,2,none⟩) (by show w.heap.size≠g;omega) (.int .i64 (y.apart+1)));have hB5:=Bf hB4 (by omega:w.heap.size≤g) 2 (.int .i64 (y.apart+1));clear k8 f2 q2 HG4 HK4 hB4;generalize w4.setCell ⟨g,2,none⟩ (.int .i64 (y.apart+1))=w5 at *;have k8:w5.cell? ⟨w.heap.size,8,none⟩=some (.int .i64 c.apart):=HK5.out.cell rfl;go_upto_region 8 with fail;clear k8;have k1:w5.cell? ⟨w.heap.size,1,none⟩=some (.string c.service):=HK5.out.cell rfl;obtain ⟨w9,hrun,hM9,hg9⟩:=(HMW.out.below hB5).store Tryz.underlying106 (show m<maxLen by unfold maxLen;omega) (s:=c.service) (show c.service.size≤maxLen by unfold maxLen;omega) (.agg #[.string c.service,.int .i64 (y.n+1),.int .i64 (y.apart+1),.int .i64 y.zone]);have HM9:=iH hM9;have HG9:=iH hg9;clear hM9 hg9;go_wp2_with (refine wpList_load_mid rfl 125 _ rfl g 0 rfl [.string c.service,.int .i64 (y.n+1),.int .i64 (y.apart+1),.int .i64 y.zone] _ HG5.out.rangeA Tryz.underlying125 rfl Jf ?_)
 first | go_end0 | ((try simp only [Exit.inBlock,Exit.then]);refine bodyPost_ret (results_none rfl _ _ _) rfl ?_)
 refine ⟨rfl,?_,(Cc hB5).trans HG9.out⟩;rw [Tw HAS.out c,← HY.out];have e9:vCn (Fr c y)=.agg #[.string c.service,.int .i64 (y.n+1),.int .i64 (y.apart+1),.int .i64 y.zone]:=by simp only [vCn,Fr];simp [HE.out]
 rw [e9];exact HM9.out
end Go.Proofs.YtpeajnkkdioflaaGreat
namespace Go.Proofs.YtpeajnkkdioflaaGreat
open Go.RowKit
def Cw (x:Cnt):List Value:=[.string x.service,.int .i64 x.n,.int .i64 x.apart,.int .i64 x.zone]
def Am:List Cnt→List Value
 | []=>[]
 | x::r=>Cw x++Am r
theorem Cy (x:Cnt):(Cw x).length=4:=rfl
theorem Cl:∀ xs:List Cnt,(Am xs).length=xs.length*4
 | []=>rfl
 | x::r=>by
  have:=Cl r;simp only [Am,List.length_append,List.length_cons,Cy];omega
theorem Ds:∀ (xs:List Cnt) (k:Nat) (x:Cnt) (j:Nat),xs[k]?=some x→j<4→(Am xs)[k*4+j]?=(Cw x)[j]?
 | [],_,_,_,h,_=>by simp at h
 | y::r,0,x,j,h,hj=>by
  simp at h;subst h;simp only [Am];rw [List.getElem?_append_left (by rw [Cy];omega)];simp
 | y::r,k+1,x,j,h,hj=>by
  simp at h;simp only [Am];rw [List.getElem?_append_right (by rw [Cy];omega),Cy,show (k+1)*4+j - 4=k*4+j by omega];exact Ds r k x j h hj
theorem Cb:∀ (xs:List Cnt),∀ u∈Am xs,u.oneCell'=true
 | [],u,h=>by cases h
 | x::r,u,h=>by
  simp only [Am,List.mem_append] at h;rcases h with h | h
  ·have:∀ v∈Cw x,v.oneCell'=true:=by
    intro v hv;simp only [Cw,List.mem_cons,List.not_mem_nil,or_false] at hv;rcases hv with rfl | rfl | rfl | rfl <;> rfl
   exact this u h
  ·exact Cb r u h
theorem Un {lo:Nat} {w:World} {f:Nat→Option Value} {x:Cnt} (h:CntC lo w f x) (j:Nat) (v:Value) (hv:(Cw x)[j]?=some v):f j=some v:=by
 obtain ⟨q0,q1,q2,q3,_⟩:=h;have hj:j<4:=Ad hv;have hc:j=0∨j=1∨j=2∨j=3:=by omega
 rcases hc with rfl | rfl | rfl | rfl <;> (cases hv;assumption)
theorem Uk {lo:Nat} {w:World} {f:Nat→Option Value} {x:Cnt} (h:∀ j v,(Cw x)[j]?=some v→f j=some v) (z0:x.service.size≤maxLen):CntC lo w f x :=
 ⟨h 0 _ rfl,h 1 _ rfl,h 2 _ rfl,h 3 _ rfl,z0⟩
theorem gW {lo:Nat} {w:World} {b o:Nat} {xs:List Cnt} (h:SliceC CntC 4 lo w (some ⟨b,o,none⟩) xs) (j:Nat) (u:Value) (hu:(Am xs)[j]?=some u):w.cell? ((⟨b,o,none⟩:Addr).add j)=some u:=by
 have hl:j<xs.length*4:=by have:=Ad hu;rwa [Cl] at this
 obtain ⟨x,hx⟩:∃ x,xs[j / 4]?=some x:=⟨xs[j / 4]'(by omega),List.getElem?_eq_getElem (by omega)⟩;obtain ⟨b',o',e,_,_,hc⟩:=h.at hx;cases e
 rw [show j=j / 4*4+j % 4 by omega,Ds xs (j / 4) x (j % 4) hx (by omega)] at hu;have:=Un hc (j % 4) u hu;rw [Addr.add_mid,show o+j=o+j / 4*4+j % 4 by omega];exact this
def Rt (xs:List Cnt) (m:Nat):Prop:=∀ x∈xs,x.service.size≤m
theorem Iz {base cap:Nat} {a:Option Addr} {w:World} {xs:List Cnt} (h:w.ownsRow base 125 4 (.slice a xs.length cap) xs.length (Am xs)) (hm:xs.length≤1048576) (hz:Rt xs 1048576):SliceC CntC 4 base w a xs:=by
 rcases h.2 with ⟨h1,_⟩ | ⟨g',cap',cur,h1,_⟩
 ·have:xs.length=0:=by injection h1
  rw [List.length_eq_zero_iff.1 this];exact SliceC.nil
 ·have e:a=some ⟨g',0,none⟩:=by injection h1
  subst e;refine ⟨by unfold maxLen;omega,.inr ⟨g',0,rfl,⟨Ih h,fun _ p=>h.frozenAt p⟩,(h.lt g' rfl).2,fun k x hk=>?_⟩⟩;have hlt:=Ad hk;have hzz:=hz x (List.mem_of_getElem? hk);refine Uk (fun j v hv=>?_) (by unfold maxLen;omega);have hj:j<4:=Ad hv;show w.cell? ⟨g',0+k*4+j,none⟩=some v
  have:=h.cellAt (k*4+j) (by omega);rw [Nat.zero_add];rw [this,Ds xs k x j hk hj];exact hv
theorem Eu:∀ (xs ys:List Cnt),Am (xs++ys)=Am xs++Am ys
 | [],_=>rfl
 | x::r,ys=>by simp only [List.cons_append,Am,Eu r ys,List.append_assoc]
theorem Dh {base n:Nat} {w:World} {e:TypeId} {s:Nat} {cs:List Value} {v:Value} (h:w.ownsRow base e s v n cs):∀ j,v.ownBlock=some j→base≤j:=by
 intro j hj;rcases h.2 with ⟨h1,_⟩ | ⟨g',cap',cur,h1,h2,_⟩
 ·rw [h1] at hj
  cases hj
 ·rw [h1] at hj
  cases hj
  exact h2
theorem Bd {base base':Nat} {e:TypeId} {size:Nat} {v:Value} {n:Nat} {xs:List Value} {w:World} (h:w.ownsRow base e size v n xs) (hb:base'≤base):w.ownsRow base' e size v n xs:=by
 refine ⟨h.1,?_⟩;rcases h.2 with h1 | ⟨g,cap,cur,h1,h2,h3⟩
 ·exact .inl h1
 ·exact .inr ⟨g,cap,cur,h1,Nat.le_trans hb h2,h3⟩
end Go.Proofs.YtpeajnkkdioflaaGreat
namespace Go.Proofs.YtpeajnkkdioflaaGreat
open Go.RowKit Go.WideMaps Go.Maps Go.Sort
theorem Yj (x:Cnt) (w:World) (hz:x.service.size≤20) :
  Calls Tryz.prog 85 #[.agg #[.string x.service,.int .i64 x.n,.int .i64 x.apart,.int .i64 x.zone]] w fun e w'=>e=.returned (.agg #[.string x.service,.int .i64 x.n,.int .i64 x.apart,.int .i64 x.zone])∧Below w.heap.size w w':=by
 have hB1:Below w.heap.size w ((w.alloc (Obj.cells #[.string x.service,.int .i64 x.n,.int .i64 x.apart,.int .i64 x.zone] 125)).alloc (Obj.cells #[.string ⟨#[]⟩,.int .i64 0,.int .i64 0,.int .i64 0] 125)):=((Below.refl _ _).alloc nL _).alloc (by simp) _;have HK1:Hid (Blk w.heap.size #[.string x.service,.int .i64 x.n,.int .i64 x.apart,.int .i64 x.zone] 125 ((w.alloc (Obj.cells #[.string x.service,.int .i64 x.n,.int .i64 x.apart,.int .i64 x.zone] 125)).alloc (Obj.cells #[.string ⟨#[]⟩,.int .i64 0,.int .i64 0,.int .i64 0] 125))):=(Blk.alloc w #[.string x.service,.int .i64 x.n,.int .i64 x.apart,.int .i64 x.zone] 125).below ((Below.refl (w.alloc (Obj.cells #[.string x.service,.int .i64 x.n,.int .i64 x.apart,.int .i64 x.zone] 125)).heap.size _).alloc nL _) (by simp);have HR1:Hid (Blk (w.heap.size+1) #[.string ⟨#[]⟩,.int .i64 0,.int .i64 0,.int .i64 0] 125 ((w.alloc (Obj.cells #[.string x.service,.int .i64 x.n,.int .i64 x.apart,.int .i64 x.zone] 125)).alloc (Obj.cells #[.string ⟨#[]⟩,.int .i64 0,.int .i64 0,.int .i64 0] 125))):=by
  have h:=Blk.alloc (w.alloc (Obj.cells #[.string x.service,.int .i64 x.n,.int .i64 x.apart,.int .i64 x.zone] 125)) #[.string ⟨#[]⟩,.int .i64 0,.int .i64 0,.int .i64 0] 125;rw [show (w.alloc (Obj.cells #[.string x.service,.int .i64 x.n,.int .i64 x.apart,.int .i64 x.zone] 125)).heap.size=w.heap.size+1 by simp] at h;exact h
 go_enter Tryz.func85,Tryz.ntmps85;go_upto_region 1 with fail;generalize (w.alloc (Obj.cells #[.string x.service,.int .i64 x.n,.int .i64 x.apart,.int .i64 x.zone] 125)).alloc (Obj.cells #[.string ⟨#[]⟩,.int .i64 0,.int .i64 0,.int .i64 0] 125)=w1 at *;have k0:w1.cell? ⟨w.heap.size,0,none⟩=some (.string x.service):=HK1.out.cell rfl;go_wp2_with fail;refine (Js x.service _ (by omega)).mono ?_;rintro e w2 ⟨rfl,hb⟩;have HK2:=iH (HK1.out.below hb HK1.out.lt);have HR2:=iH (HR1.out.below hb HR1.out.lt);have hB2:=hB1.trans (hb.mono hB1.size);clear k0 hb HK1 HR1 hB1;have k0:w2.cell? ⟨w.heap.size,0,none⟩=some (.string x.service):=HK2.out.cell rfl;have q0:=HK2.out.frozen 0;go_upto_region 2 with fail;have HK3:Hid (Blk w.heap.size #[.string x.service,.int .i64 x.n,.int .i64 x.apart,.int .i64 x.zone] 125 (w2.setCell ⟨w.heap.size,0,none⟩ (.string x.service))):=HK2.out.set 0 _;have HR3:=iH (HR2.out.other (a:=⟨w.heap.size,0,none⟩) (by show w.heap.size+1≠w.heap.size;omega) (.string x.service));have hB3:=Bf hB2 nL 0 (.string x.service);clear k0 q0 HK2 HR2 hB2;generalize w2.setCell ⟨w.heap.size,0,none⟩ (.string x.service)=w3 at *;obtain ⟨w4,hw4⟩:∃ w4,w4=w3.setCells (w.heap.size+1) 0 #[.string x.service,.int .i64 x.n,.int .i64 x.apart,.int .i64 x.zone].toList:=⟨_,rfl⟩;have HR4:Hid (Blk (w.heap.size+1) #[.string x.service,.int .i64 x.n,.int .i64 x.apart,.int .i64 x.zone] 125 w4):=by rw [hw4];exact HR3.out.setAll _ rfl
 have hB4:Below w.heap.size w w4:=by rw [hw4];exact Ai (by omega) _ _ _ hB3
 have HW4:=iH hw4;clear hw4;go_wp2_with (first | (refine wpList_load_mid rfl 125 _ rfl w.heap.size 0 rfl [.string x.service,.int .i64 x.n,.int .i64 x.apart,.int .i64 x.zone] _ HK3.out.rangeA Tryz.underlying125 rfl Jf ?_) | (refine Ap rfl 125 _ _ rfl (w.heap.size+1) 0 #[.string x.service,.int .i64 x.n,.int .i64 x.apart,.int .i64 x.zone] rfl rfl HR3.out.there Jf (by simp [Value.oneCell']) w4 HW4.out ?_));refine bodyPost_ret (Aw rfl _ _ (w.heap.size+1) [.string x.service,.int .i64 x.n,.int .i64 x.apart,.int .i64 x.zone] _ rfl HR4.out.rangeA Tryz.underlying125 rfl Jf) rfl ?_;exact ⟨rfl,hB4⟩
theorem dO {w:World} {m n:Nat} {xs:List Cnt} {x:Cnt} (h:MapV w (vCn Dm) m n (fCn xs)) (ha:Asc Cnt.service xs) (hx:x∈xs) (hs:x.service.size≤maxLen) :
  (Instr.lookup 106 (.map (some m)) (.string x.service) false).run Tryz.prog w=.ok (.agg #[.string x.service,.int .i64 x.n,.int .i64 x.apart,.int .i64 x.zone]) w:=by
 rw [h.look Tryz.underlying106 (Vv w) hs,fCn,ha.find hx];rfl
theorem Hr (xs:List Cnt) (b n:Nat) (w:World) (hm:MapV w (vCn Dm) b n (fCn xs)) (hn:n≤2097152) (ha:Asc Cnt.service xs) (hz:∀ x∈xs,x.service.size≤20) (hl:xs.length≤1048576) :
  Calls Tryz.prog 58 #[.map (some b)] w fun e w'=>∃ a q,e=.returned (.slice a xs.length q)∧w'.ownsRow w.heap.size 125 4 (.slice a xs.length q) xs.length (Am xs)∧Below w.heap.size w w':=by
 obtain ⟨i0,hi,hz0,hz1,hz2⟩:=info_parts Pf;obtain ⟨D,hown,hkp⟩:=hm.keys (ns:=xs.map Cnt.service) (by unfold Asc;rw [List.pairwise_map];exact ha) (fun s=>eC s);have hsz:=hown.size_le;have HO:=iH hown;have HMV:=iH hm;have HA:=iH ha;have HZ:=iH hz;have HP:=iH hkp;clear hown hm ha hz hkp;go_enter Tryz.func58,Tryz.ntmps58;go_wp2_with fail;refine (callsIn_wide.1 (Us (some b) _)).mono ?_;rintro e w1 ⟨rfl,rfl⟩;go_wp2_with fail;refine (callsIn_wide.1 (Qe b n D Hp w HO.out (by unfold maxLen;omega) (by omega))).mono ?_;rintro e w2 ⟨v,ss,rfl,hS,hrow,hnil,hb2⟩;have hsort:ss.mergeSort (fun x y=>decide (x≤y))=nmL (xs.map Cnt.service):=Kp (by have h:=HA.out;unfold Asc at *;rw [List.pairwise_map];exact h) (hS.trans HP.out.symm);have hlen:ss.length=xs.length:=by rw [(hS.trans HP.out.symm).length_eq];simp [nmL]
 rw [hsort,hlen] at hrow;have hb1:Below w.heap.size w (w.alloc (.cells #[.map (some b)] 106)):=(Below.refl _ w).alloc nL _;have hB2:Below w.heap.size w w2:=hb1.trans (hb2.mono hb1.size);have HO2:=iH (HMV.out.below hB2);have HR2:=iH hrow;clear hb1 hb2 HO HMV HP hS hsort;by_cases h0:xs=[]
 ·subst h0
  have hss:ss=[]:=List.length_eq_zero_iff.1 hlen;have hv:v=.slice none 0 0:=hnil.2 hss;subst hv;clear hnil hss hlen HR2 hrow;go_wp2_with fail;go_loopw [3,10] (fun l i wr=>l=.slice none 0 0∧i=.int .i64 0∧Below w.heap.size w wr) (fun _ i _=>0)
  case atStart=>exact ⟨rfl,rfl,hB2⟩
  case round =>
   obtain ⟨rfl,rfl,hB⟩:=hrel;go_wp2_with fail;go_ret;exact ⟨none,0,rfl,World.ownsRow_nil _ _ _ _,hB⟩
 ·have hpos:0<xs.length:=List.length_pos_iff.2 h0
  have hv:v≠.slice none 0 0:=fun e=>by
   have:=hnil.1 e;rw [this] at hlen;simp at hlen;omega
  obtain ⟨g,cap,rfl⟩:=Dd HR2.out hv;clear hnil hlen hv hrow h0 ss;go_wp2_with fail;go_loopw [3,10] (fun l i wr=>∃ (k:Nat) (a:Option Addr) (q:Nat),k≤xs.length∧i=.int .i64 k∧l=.slice a k q∧Hid (wr.ownsRow w2.heap.size 125 4 (.slice a k q) k (Am (xs.take k)))∧Hid (Below w2.heap.size w2 wr)) (fun _ i _=>xs.length - (intOf i).toNat)
  case atStart=>exact ⟨0,none,0,Nat.zero_le _,rfl,rfl,World.ownsRow_nil _ _ _ _,Below.refl _ _⟩
  case round =>
   obtain ⟨k,a,q,hk,rfl,rfl,HOW,HB⟩:=hrel;by_cases hlt:k<xs.length
   case neg =>
    have hke:k=xs.length:=by omega
    subst hke;rw [List.take_length] at HOW;have hBf:Below w.heap.size w wr:=hB2.trans (HB.out.mono hB2.size);have HOF:=iH (Bd HOW.out hB2.size);go_wp2_with fail;go_ret;exact ⟨a,q,rfl,HOF.out,hBf⟩
   obtain ⟨x,hx⟩:∃ x,xs[k]?=some x:=⟨xs[k],List.getElem?_eq_getElem hlt⟩;have HOr:=iH (HO2.out.below HB.out);have HRr:=iH (Ao HR2.out HB.out);have hzx:=HZ.out x (List.mem_of_getElem? hx);have yl:=dO HOr.out HA.out (List.mem_of_getElem? hx) (by unfold maxLen;omega);have kc:wr.cell? ⟨g,k,none⟩=some (.string x.service):=by
    have h:=HRr.out.cellAt k (by omega);rw [h];unfold nmL;rw [List.getElem?_map,List.getElem?_map,List.getElem?_map,hx];show some (Value.string ⟨x.service.toList.toArray⟩)=_
    rw [Sm]
   have HST:Hid (xs.take (k+1)=xs.take k++[x]):=by show _=_;rw [List.take_add_one,hx];rfl
   have i0':(0:Int)≤(k:Int):=by omega
   have i1':(k:Int)<(xs.length:Int):=by omega
   clear hx;go_upto_region 5 with fail;go_wp2_with fail;refine (Yj x _ hzx).mono ?_;rintro e wk ⟨rfl,hbk⟩;have HOk:=iH (Ao HOW.out hbk);have HBk:Hid (Below w2.heap.size w2 wk):=HB.out.trans (hbk.mono HB.out.size);clear hbk yl kc;obtain ⟨NV,hnv⟩:∃ l,l=Cw x:=⟨_,rfl⟩;have HNV:=iH hnv;clear hnv;have HNL:Hid (NV.length=1*4):=by show _=_;rw [HNV.out];rfl
   have HNN:Hid (∀ j u,NV[j]?=some u→(wk.alloc (Obj.cells #[.string x.service,.int .i64 x.n,.int .i64 x.apart,.int .i64 x.zone] 125)).cell? ((⟨wk.heap.size,0,none⟩:Addr).add j)=some u):=by
    intro j u hj;rw [Addr.add_mid];rw [HNV.out] at hj;exact (Blk.alloc wk #[.string x.service,.int .i64 x.n,.int .i64 x.apart,.int .i64 x.zone] 125).rangeA j u hj
   have HN1:Hid (∀ u∈NV,u.oneCell'=true):=by
    intro u hu;rw [HNV.out] at hu;exact Cb [x] u (by simp only [Am,List.append_nil];exact hu)
   have HOA:=iH (HOk.out.alloc (Obj.cells #[.string x.service,.int .i64 x.n,.int .i64 x.apart,.int .i64 x.zone] 125));have hws:w2.heap.size≤wk.heap.size:=HBk.out.size;go_wp2_with (at_builtin;refine wpList_append_own _ rfl _ _ 30 rfl w2.heap.size 125 i0 _ 4 40 Tryz.underlying30 hi hz0 hz1 hz2 rfl (by decide) _ k _ rfl HOA.out ⟨wk.heap.size,0,none⟩ 1 1 NV rfl HNL.out HNN.out HN1.out (by unfold maxLen;omega) (by omega) (by simp;omega) ?_;intro v' w8 hown8 hgrow8 hnil8;have hv8:v'≠.slice none 0 0:=(fun e=>by have h9:=(hnil8.1 e).2;cases h9);obtain ⟨g8,q8,rfl⟩:=Dd hown8 hv8);have HO8:Hid (w8.ownsRow w2.heap.size 125 4 (.slice (some ⟨g8,0,none⟩) (k+1) q8) (k+1) (Am (xs.take (k+1)))):=by
    show World.ownsRow _ _ _ _ _ _ _
    rw [HST.out,Eu];rw [HNV.out] at hown8;simp only [Am,List.append_nil];exact hown8
   have HB8:Hid (Below w2.heap.size w2 w8):=(HBk.out.alloc HBk.out.size _).grown hgrow8 (by have:=HBk.out.size;simp;omega) (Dh HOk.out);clear hown8 hgrow8 hnil8 hv8;go_wp2_with fail;go_roundw
   case rel=>exact ⟨k+1,some ⟨g8,0,none⟩,q8,by omega,by go_num,rfl,HO8,HB8⟩
   case measure=>simp [intOf];omega
end Go.Proofs.YtpeajnkkdioflaaGreat
