import Derived.Test.YtpeajnkkdioflaaGreatJ19
import Derived.Test.YtpeajnkkdioflaaGreatLik
import Derived.Lib.Strings
import Derived.Lib.Slices
import Derived.Lib.Walk
import Derived.Lib.Bytealg
import Derived.Lib.IndexLaws
set_option maxHeartbeats 2000000
namespace Go.Proofs.YtpeajnkkdioflaaGreat
set_option maxRecDepth 100000
open Go.RowKit
theorem fJ (p:Nat) (t:ByteArray) (f:Nat) (H:∀ g,g≤f→Gv 179 0 1 p t g) (ht:t.size≤200):Gv 174 1 2 p t (f+1):=by
 intro i w hr hi hf;have HR:Hid (RdAt w p t i):=hr;have HH:Hid (∀ g,g≤f→Gv 179 0 1 p t g):=H;have HF:Hid (4*(Ab t i).length+2≤f+1):=hf;clear hr H hf;go_enter Tryz.func174,Tryz.ntmps174;go_wp2_with fail;refine (Tv p t f HH.out i _ HR.out hi ht HF.out).mono ?_;rintro e w1 (⟨y,k,h1,rfl,h2,h3,h4⟩ | ⟨h1,q,rfl,h4⟩)
 ·have H:Hid (Rds p t (P.rd (f+1) 1 P.nonT (Ab t i)) w (.returned (.tuple #[val y,.nilIface])) w1):=.inl ⟨y,k,h1,rfl,h2,h3,h4⟩
  clear h1 h3 h4;go_wp2_with fail
  go_ret2
  exact H.out
 ·have H:Hid (Rds p t (P.rd (f+1) 1 P.nonT (Ab t i)) w (.returned (.tuple #[.nilIface,Ju q])) w1):=.inr ⟨h1,q,rfl,h4⟩
  clear h1 h4;go_wp2_with fail
  go_ret2
  exact H.out
theorem Xm (p:Nat) (t:ByteArray) (f:Nat) (H:∀ g,g≤f→Gv 174 1 2 p t g) (ht:t.size≤200):Gv 167 2 3 p t (f+1):=by
 intro i w hr hi hf;have HR:Hid (RdAt w p t i):=hr;have HH:Hid (∀ g,g≤f→Gv 174 1 2 p t g):=H;have HF:Hid (4*(Ab t i).length+3≤f+1):=hf;clear hr H hf;go_enter Tryz.func167,Tryz.ntmps167;go_wp2_with fail;refine (Vl p t f HH.out i _ HR.out hi ht HF.out).mono ?_;rintro e w1 (⟨y,k,h1,rfl,h2,h3,h4⟩ | ⟨h1,q,rfl,h4⟩)
 ·have H:Hid (Rds p t (P.rd (f+1) 2 P.nonT (Ab t i)) w (.returned (.tuple #[val y,.nilIface])) w1):=.inl ⟨y,k,h1,rfl,h2,h3,h4⟩
  clear h1 h3 h4;go_wp2_with fail
  go_ret2
  exact H.out
 ·have H:Hid (Rds p t (P.rd (f+1) 2 P.nonT (Ab t i)) w (.returned (.tuple #[.nilIface,Ju q])) w1):=.inr ⟨h1,q,rfl,h4⟩
  clear h1 h4;go_wp2_with fail
  go_ret2
  exact H.out
def brk (f:Nat) (l:List (List UInt8)):Option (P.Tr×List (List UInt8)):=match P.rd f 2 P.nonT l with
 | none=>none
 | some (y,r')=>match P.tk 41 r' with
  | none=>none
  | some r''=>some (y,r'')
theorem gR (p:Nat) (t:ByteArray) (f:Nat) (H:Gv 167 2 3 p t f) (i:Nat) (w:World) (hr:RdAt w p t i) (hi:i≤t.size) (ht:t.size≤200) (hf:4*(Ab t i).length+3≤f) :
  Calls Tryz.prog 183 #[.pointer (some ⟨p,0,none⟩)] w fun e w'=>Rds p t (brk f (Ab t i)) w e w':=by
 have HR:Hid (RdAt w p t i):=hr;have HH:Hid (Gv 167 2 3 p t f):=H;have HF:Hid (4*(Ab t i).length+3≤f):=hf
 have HM:Hid (brk f (Ab t i)=match P.rd f 2 P.nonT (Ab t i) with
  | none=>none
  | some (y,r')=>match P.tk 41 r' with
   | none=>none
   | some r''=>some (y,r'')):=rfl
 generalize brk f (Ab t i)=M at *;clear hr H hf;go_enter Tryz.func183,Tryz.ntmps183;go_wp2_with fail;refine (HH.out i _ HR.out hi HF.out).mono ?_;rintro e w1 (⟨y,k,h1,rfl,h2,h3,h4⟩ | ⟨h1,q,rfl,h4⟩)
 ·have H3:Hid (RdAt w1 p t k):=h3
  have H4:Hid (But p w.heap.size w w1):=h4
  have HM2:Hid (M=match P.tk 41 (Ab t k) with
   | none=>none
   | some r''=>some (y,r'')):=by rw [HM.out,h1];rfl
  clear h1 h3 h4 HM;go_wp2_with fail;refine (Hf p t k 41 _ H3.out h2 ht (by decide) (by decide)).mono ?_;rintro e w2 ⟨k2,rfl,g1,g2,g3,g4,g5⟩;have G4:Hid (RdAt w2 p t k2):=g4;have G5:Hid (But p w.heap.size w w2):=H4.out.trans (g5.mono H4.out.size);have G3:Hid (Ab t k2=(P.tk 41 (Ab t k)).getD (Ab t k)):=g3;clear g3 g4 g5
  cases hT:P.tk 41 (Ab t k) with
  | none =>
   have HR1:Hid (M=none):=by rw [HM2.out,hT];rfl
   clear hT HM2 G3;go_wp2_with fail;refine (Hc p t k2 _ G4.out).mono ?_;rintro e w3 ⟨rfl,hb3⟩;have F4:Hid (But p w.heap.size w w3):=G5.out.trans (hb3.mono G5.out.size);clear hb3;go_wp2_with fail
   go_ret2
   exact .inr ⟨HR1.out,_,rfl,F4.out⟩
  | some r' =>
   have HR1:Hid (M=some (y,Ab t k2)):=by rw [HM2.out,hT];simp only [];rw [G3.out,hT];rfl
   clear hT HM2 G3;go_wp2_with fail
   go_ret2
   exact .inl ⟨y,k2,HR1.out,rfl,g2,G4.out,G5.out⟩
 ·have HR1:Hid (M=none):=by rw [HM.out,h1];rfl
  have H4:Hid (But p w.heap.size w w1):=h4;clear h1 h4 HM;simp only [Ju];go_wp2_with fail
  go_ret2
  exact .inr ⟨HR1.out,q,rfl,H4.out⟩
theorem Za (p:Nat) (t:ByteArray) (f:Nat) (H:Gv 179 0 1 p t f) (HE:Gv 167 2 3 p t f) (ht:t.size≤200):Gv 179 0 1 p t (f+1):=by
 intro i w hr hi hf;have HR:Hid (RdAt w p t i):=hr;have HH:Hid (Gv 179 0 1 p t f):=H;have HE':Hid (Gv 167 2 3 p t f):=HE;have HF:Hid (4*(Ab t i).length+1≤f+1):=hf
 have HM:Hid (P.rd (f+1) 0 P.nonT (Ab t i)=match P.tk 33 (Ab t i) with
  | some r=>match P.rd f 0 P.nonT r with
   | none=>none
   | some (y,r')=>some (P.ntT y,r')
  | none=>match P.tk 40 (Ab t i) with
   | some r=>brk f r
   | none=>P.markT (Ab t i)):=rfl
 generalize P.rd (f+1) 0 P.nonT (Ab t i)=M at *;clear hr H hf HE;go_enter Tryz.func179,Tryz.ntmps179;go_wp2_with fail;refine (Hf p t i 33 _ HR.out hi ht (by decide) (by decide)).mono ?_;rintro e w2 ⟨k2,rfl,g1,g2,g3,g4,g5⟩;have G4:Hid (RdAt w2 p t k2):=g4;have G5:Hid (But p w.heap.size w w2):=g5;have G3:Hid (Ab t k2=(P.tk 33 (Ab t i)).getD (Ab t i)):=g3;clear g3 g4 g5
 cases hT:P.tk 33 (Ab t i) with
 | some r' =>
  have G3':Hid (Ab t k2=r'):=by rw [G3.out,hT];rfl
  have hl2:Hid ((Ab t k2).length+1=(Ab t i).length):=by rw [G3'.out];exact P.tk_len hT
  have HM2:Hid (M=match P.rd f 0 P.nonT (Ab t k2) with
   | none=>none
   | some (y,r')=>some (P.ntT y,r')):=by rw [HM.out,hT];simp only [];rw [G3'.out];rfl
  clear hT HM G3 G3';go_wp2_with fail;refine (HH.out k2 _ G4.out g2 (by have:=HF.out;have:=hl2.out;omega)).mono ?_;rintro e w3 (⟨z,k3,f1,rfl,f2,f3,f4⟩ | ⟨f1,q,rfl,f4⟩)
  ·obtain ⟨b1,b2,b3,b4,b5,b6⟩:=P.rd_rd f 0 P.nonT _ _ _ (fun h=>by omega) f1
   rw [if_pos (by omega)] at b5;have HM3:Hid (M=some (P.ntT z,Ab t k3)):=by rw [HM2.out,f1];rfl
   have F3:Hid (RdAt w3 p t k3):=f3;have F4:Hid (But p w.heap.size w w3):=G5.out.trans (f4.mono G5.out.size);have HW:Hid (P.wf z):=b3;have HZ:Hid (P.tall z≤1000):=by show _≤_;have:=Hd (i:=k2) ht;omega
   clear f1 f3 f4 HM2 b1 b2 b3 b4 b5 b6;go_wp2_with fail;refine (Wp z HW.out HZ.out _).mono ?_;rintro e w4 ⟨rfl,hb4⟩;have E3:Hid (RdAt w4 p t k3):=F3.out.below hb4 F3.out.lt;have E4:Hid (But p w.heap.size w w4):=F4.out.trans ((But.of_below hb4).mono F4.out.size);clear hb4;go_wp2_with fail
   go_ret2
   exact .inl ⟨_,k3,HM3.out,rfl,f2,E3.out,E4.out⟩
  ·have HR1:Hid (M=none):=by rw [HM2.out,f1];rfl
   have F4:Hid (But p w.heap.size w w3):=G5.out.trans (f4.mono G5.out.size);clear f1 f4 HM2;simp only [Ju];go_wp2_with fail
   go_ret2
   exact .inr ⟨HR1.out,q,rfl,F4.out⟩
 | none =>
  have G3':Hid (Ab t k2=Ab t i):=by rw [G3.out,hT];rfl
  have HM2:Hid (M=match P.tk 40 (Ab t k2) with
   | some r=>brk f r
   | none=>P.markT (Ab t k2)):=by rw [HM.out,hT,G3'.out];rfl
  clear hT HM G3;go_wp2_with fail;refine (Hf p t k2 40 _ G4.out g2 ht (by decide) (by decide)).mono ?_;rintro e w3 ⟨k3,rfl,f1,f2,f3,f4,f5⟩;have F4:Hid (RdAt w3 p t k3):=f4;have F5:Hid (But p w.heap.size w w3):=G5.out.trans (f5.mono G5.out.size);have F3:Hid (Ab t k3=(P.tk 40 (Ab t k2)).getD (Ab t k2)):=f3;clear f3 f4 f5
  cases hT:P.tk 40 (Ab t k2) with
  | some r' =>
   have F3':Hid (Ab t k3=r'):=by rw [F3.out,hT];rfl
   have hl2:Hid ((Ab t k3).length+1=(Ab t i).length):=by rw [F3'.out,← G3'.out];exact P.tk_len hT
   have HM3:Hid (M=brk f (Ab t k3)):=by rw [HM2.out,hT,F3'.out];rfl
   clear hT HM2 F3 F3' G3';go_wp2_with fail;refine (gR p t f HE'.out k3 _ F4.out f2 ht (by have:=HF.out;have:=hl2.out;omega)).mono ?_;rintro e w4 (⟨z,k4,d1,rfl,d2,d3,d4⟩ | ⟨d1,q,rfl,d4⟩)
   ·have H:Hid (Rds p t M w (.returned (.tuple #[val z,.nilIface])) w4):=.inl ⟨z,k4,HM3.out.trans d1,rfl,d2,d3,F5.out.trans (d4.mono F5.out.size)⟩
    clear d1 d3 d4;go_wp2_with fail
    go_ret2
    exact H.out
   ·have H:Hid (Rds p t M w (.returned (.tuple #[.nilIface,Ju q])) w4):=.inr ⟨HM3.out.trans d1,q,rfl,F5.out.trans (d4.mono F5.out.size)⟩
    clear d1 d4;go_wp2_with fail
    go_ret2
    exact H.out
  | none =>
   have HM3:Hid (M=P.markT (Ab t k3)):=by rw [HM2.out,hT,F3.out,hT];rfl
   clear hT HM2 F3 G3';go_wp2_with fail;refine (fQ p t k3 _ F4.out f2 ht).mono ?_;rintro e w4 (⟨z,k4,d1,rfl,d2,d3,d4⟩ | ⟨d1,q,rfl,d4⟩)
   ·have H:Hid (Rds p t M w (.returned (.tuple #[val z,.nilIface])) w4):=.inl ⟨z,k4,HM3.out.trans d1,rfl,d2,d3,F5.out.trans (d4.mono F5.out.size)⟩
    clear d1 d3 d4;go_wp2_with fail
    go_ret2
    exact H.out
   ·have H:Hid (Rds p t M w (.returned (.tuple #[.nilIface,Ju q])) w4):=.inr ⟨HM3.out.trans d1,q,rfl,F5.out.trans (d4.mono F5.out.size)⟩
    clear d1 d4;go_wp2_with fail
    go_ret2
    exact H.out
theorem Md (F:FuncId) (m c p:Nat) (t:ByteArray) (hc:1≤c):Gv F m c p t 0:=by
 intro i w _ _ hf;omega
theorem eI (p:Nat) (t:ByteArray) (ht:t.size≤200):∀ f g,g≤f→Gv 179 0 1 p t g∧Gv 174 1 2 p t g∧Gv 167 2 3 p t g
 | 0,g,hg=>by
  have:g=0:=by omega
  subst this;exact ⟨Md _ _ _ _ _ (by omega),Md _ _ _ _ _ (by omega),Md _ _ _ _ _ (by omega)⟩
 | f+1,g,hg=>by
  have ih:=eI p t ht f;by_cases h:g≤f
  ·exact ih g h
  ·have:g=f+1:=by omega
   subst this;exact ⟨Za p t f (ih f nL).1 (ih f nL).2.2 ht,fJ p t f (fun g hg=>(ih g hg).1) ht,Xm p t f (fun g hg=>(ih g hg).2.1) ht⟩
def Ay (t:ByteArray):Nat :=
 if 200<t.size then 1
 else if Ab t 0=[] then 0
 else match P.rd 1000 2 P.nonT (Ab t 0) with
  | some (y,[])=>if 20<P.tall y then 3 else 0
  | _=>2
def Gy (t:ByteArray):P.Tr :=
 if Ab t 0=[] then P.nonT
 else match P.rd 1000 2 P.nonT (Ab t 0) with
  | some (y,_)=>y
  | none=>P.nonT
def lJ (t:ByteArray) (w:World) (e:Ending) (w':World):Prop :=
 ((Ay t=0∧e=.returned (.tuple #[val (Gy t),.nilIface]))∨(Ay t≠0∧∃ q,e=.returned (.tuple #[.nilIface,.iface 235 (.agg #[.int .i64 (Ay t:Nat),.int .i64 q])])))∧Below w.heap.size w w'
theorem Zt {t:ByteArray} {k:Nat} (hk:k<t.size) (hs:Nc t k):Ab t k≠[]:=by
 obtain ⟨l,r,e⟩:=Na hk (hs hk);rw [e];exact fun h=>by cases h
theorem dP (t:ByteArray) (w:World) (hm:t.size≤maxLen) :
  Calls Tryz.prog 162 #[.string t] w fun e w'=>lJ t w e w':=by
 unfold maxLen at hm;by_cases hbig:(200:Int)<t.size
 ·have HC:Hid (Ay t=1):=by show _=_;unfold Ay;rw [if_pos (by omega)]
  go_enter Tryz.func162,Tryz.ntmps162;go_wp2_with fail
  go_ret2
  exact ⟨.inr ⟨by rw [HC.out];omega,200,by rw [HC.out];rfl⟩,Below.refl _ _⟩
 have ht:t.size≤200:=by omega
 have HC:Hid (Ay t=if Ab t 0=[] then 0 else match P.rd 1000 2 P.nonT (Ab t 0) with
  | some (y,[])=>if 20<P.tall y then 3 else 0
  | _=>2):=by show _=_;unfold Ay;rw [if_neg (by omega)]
 have HT:Hid (Gy t=if Ab t 0=[] then P.nonT else match P.rd 1000 2 P.nonT (Ab t 0) with
  | some (y,_)=>y
  | none=>P.nonT):=rfl
 go_enter Tryz.func162,Tryz.ntmps162;go_wp2_with fail;have W0:Hid (RdAt (w.alloc (Obj.cells #[.string t,.int .i64 0] 238)) w.heap.size t 0):=⟨by simp,by simp,by simp⟩;have B0:Hid (Below w.heap.size w (w.alloc (Obj.cells #[.string t,.int .i64 0] 238))):=(Below.refl _ _).alloc nL _;generalize w.alloc (Obj.cells #[.string t,.int .i64 0] 238)=w0 at *;refine (Ji w.heap.size t 0 _ W0.out (Nat.zero_le _) ht).mono ?_;rintro e w1 ⟨k,rfl,_,k2,k3,k4,k5,k6⟩;have H3:Hid (Ab t k=Ab t 0):=k3;have H4:Hid (Nc t k):=k4;have H5:Hid (RdAt w1 w.heap.size t k):=k5;have B1:Hid (Below w.heap.size w w1):=B0.out.trans (k6.below B0.out.size nL);clear k3 k4 k5 k6 B0 W0;by_cases hk:k=t.size
 ·rw [decide_eq_true hk]
  have he:Ab t 0=[]:=by rw [← H3.out,Gg (by omega)]
  have HC0:Hid (Ay t=0):=by rw [HC.out,if_pos he];rfl
  have HT0:Hid (Gy t=P.nonT):=by rw [HT.out,if_pos he];rfl
  clear he hk;go_wp2_with fail
  go_ret2
  exact ⟨.inl ⟨HC0.out,by rw [HT0.out];rfl⟩,B1.out⟩
 rw [decide_eq_false hk];have he:¬ Ab t 0=[]:=by rw [← H3.out];exact Zt (by omega) H4.out
 have HC1:Hid (Ay t=match P.rd 1000 2 P.nonT (Ab t k) with
  | some (y,[])=>if 20<P.tall y then 3 else 0
  | _=>2):=by rw [HC.out,if_neg he,H3.out];rfl
 have HT1:Hid (Gy t=match P.rd 1000 2 P.nonT (Ab t k) with
  | some (y,_)=>y
  | none=>P.nonT):=by rw [HT.out,if_neg he,H3.out];rfl
 clear he hk HC HT;go_wp2_with fail;refine ((eI w.heap.size t ht 1000 1000 nL).2.2 k _ H5.out k2 (by have:=Hd (i:=k) ht;omega)).mono ?_;rintro e w2 (⟨y,k3,f1,rfl,f2,f3,f4⟩ | ⟨f1,q,rfl,f4⟩)
 ·obtain ⟨b1,b2,b3,b4,b5,b6⟩:=P.rd_rd 1000 2 P.nonT _ _ _ (fun h=>by omega) f1
  have HT2:Hid (Gy t=y):=by rw [HT1.out,f1];rfl
  have HC2:Hid (Ay t=match Ab t k3 with
   | []=>if 20<P.tall y then 3 else 0
   | _=>2):=by rw [HC1.out,f1];cases Ab t k3 <;> rfl
  have F3:Hid (RdAt w2 w.heap.size t k3):=f3;have B2:Hid (Below w.heap.size w w2):=B1.out.trans (f4.below B1.out.size nL);have HW:Hid (P.wf y):=b3;clear f1 f3 f4 HT1 HC1 b1 b2 b3 b4 b5 b6;go_wp2_with fail;refine (Ji w.heap.size t k3 _ F3.out f2 ht).mono ?_;rintro e w3 ⟨k4,rfl,_,d2,d3,d4,d5,d6⟩;have D3:Hid (Ab t k4=Ab t k3):=d3;have D4:Hid (Nc t k4):=d4;have D5:Hid (RdAt w3 w.heap.size t k4):=d5;have B3:Hid (Below w.heap.size w w3):=B2.out.trans (d6.below B2.out.size nL);clear d3 d4 d5 d6 B2 F3;by_cases hk:k4=t.size
  ·rw [decide_eq_true hk]
   have he:Ab t k3=[]:=by rw [← D3.out,Gg (by omega)]
   have HC3:Hid (Ay t=if 20<P.tall y then 3 else 0):=by rw [HC2.out,he];rfl
   clear he hk HC2 D3 D4 D5;obtain ⟨ty,v,hv⟩:=Ej HW.out;have HV:Hid (val y=.iface ty v):=hv;rw [hv];clear hv;go_wp2_with (refine Gs rfl (.tmp 32) _ #[] #[] rfl _ rfl #[] (Lw _) _ (Jj ⟨fun _=>by kernel_rfl,fun _ _=>by kernel_rfl,fun _ _ _=>by kernel_rfl,fun _ _ _=>by kernel_rfl,fun _ _ _ _=>by kernel_rfl,fun _ _ _ _=>by kernel_rfl⟩ HW.out HV _) ?_;rintro u w4 ⟨rfl,hb4⟩)
   ·have hgt:20<P.tall y:=by omega
    have HC4:Hid (Ay t=3):=by rw [HC3.out,if_pos hgt];rfl
    go_ret2
    exact ⟨.inr ⟨by rw [HC4.out];omega,_,by rw [HC4.out];rfl⟩,B3.out.trans (hb4.mono B3.out.size)⟩
   ·have hgt:¬ 20<P.tall y:=by omega
    have HC4:Hid (Ay t=0):=by rw [HC3.out,if_neg hgt];rfl
    go_ret2
    exact ⟨.inl ⟨HC4.out,by rw [HT2.out,HV.out];rfl⟩,B3.out.trans (hb4.mono B3.out.size)⟩
  ·rw [decide_eq_false hk]
   have he:Ab t k3≠[]:=by rw [← D3.out];exact Zt (by omega) D4.out
   have HC3:Hid (Ay t=2):=by
    rw [HC2.out]
    cases h:Ab t k3 with
    | nil=>exact absurd h he
    | cons a l=>rfl
   clear he hk HC2 D3 D4;go_wp2_with fail;refine (Hc w.heap.size t k4 _ D5.out).mono ?_;rintro e w4 ⟨rfl,hb4⟩;have B4:Hid (Below w.heap.size w w4):=B3.out.trans (hb4.below B3.out.size nL);clear hb4;go_wp2_with fail
   go_ret2
   exact ⟨.inr ⟨by rw [HC3.out];omega,_,by rw [HC3.out];rfl⟩,B4.out⟩
 ·have HC2:Hid (Ay t=2):=by rw [HC1.out,f1];rfl
  have B2:Hid (Below w.heap.size w w2):=B1.out.trans (f4.below B1.out.size nL);clear f1 f4 HT1 HC1;simp only [Ju];go_wp2_with fail
  go_ret2
  exact ⟨.inr ⟨by rw [HC2.out];omega,q,by rw [HC2.out];rfl⟩,B2.out⟩
theorem Ka (t:ByteArray) (w:World) (hm:t.size≤maxLen) :
  Calls Tryz.prog 150 #[.string t] w fun e w'=>e=.returned (.bool (decide (Ay t=0)))∧Below w.heap.size w w':=by
 go_enter Tryz.func150,Tryz.ntmps150;go_wp2_with fail;refine (dP t _ hm).mono ?_;rintro e w1 ⟨⟨h1,rfl⟩ | ⟨h1,q,rfl⟩,hb⟩
 ·have HC:Hid (decide (Ay t=0)=true):=decide_eq_true h1
  clear h1;go_wp2_with fail;go_ret;exact ⟨Ae HC.out.symm,hb⟩
 ·have HC:Hid (decide (Ay t=0)=false):=decide_eq_false h1
  clear h1;go_wp2_with fail;go_ret;exact ⟨Ae HC.out.symm,hb⟩
def inR (n a b:Int):Bool:=decide (a≤n) && decide (n≤b)
theorem Ha (n a b:Int) (w:World) :
  Calls Tryz.prog 125 #[.int .i64 n,.int .i64 a,.int .i64 b] w fun e w'=>e=.returned (.bool (inR n a b))∧Below w.heap.size w w':=by
 by_cases h1:a≤n
 ·by_cases h2:n≤b
  ·have HC:Hid (inR n a b=true):=by show _=_;simp [inR,h1,h2]
   go_enter Tryz.func125,Tryz.ntmps125;go_wp2_with fail;go_ret;exact ⟨Ae HC.out.symm,by go_grown⟩
  ·have HC:Hid (inR n a b=false):=by show _=_;simp [inR,h2]
   go_enter Tryz.func125,Tryz.ntmps125;go_wp2_with fail;go_ret;exact ⟨Ae HC.out.symm,by go_grown⟩
 ·have HC:Hid (inR n a b=false):=by show _=_;simp [inR,h1]
  go_enter Tryz.func125,Tryz.ntmps125;go_wp2_with fail;go_ret;exact ⟨Ae HC.out.symm,by go_grown⟩
theorem Hu (n:Int) (w:World) :
  Calls Tryz.prog 123 #[.int .i64 n] w fun e w'=>e=.returned (.bool (inR n 0 1000))∧Below w.heap.size w w':=by
 go_enter Tryz.func123,Tryz.ntmps123;go_wp2_with fail;refine (Ha _ _ _ _).mono ?_;rintro e w1 ⟨rfl,hb⟩;go_wp2_with fail;go_ret;exact ⟨rfl,hb⟩
def Bm (s:ByteArray):Bool:=decide (s.size=0) || P.nameOk s
theorem Hh (s:ByteArray) (w:World) (hs:s.size≤maxLen) :
  Calls Tryz.prog 152 #[.string s] w fun e w'=>e=.returned (.bool (Bm s))∧Below w.heap.size w w':=by
 by_cases h:s=⟨#[]⟩
 ·have HC:Hid (Bm s=true):=by show _=_;subst h;rfl
  have hte:s.toList=[]:=by subst h;simp
  clear h;go_enter Tryz.func152,Tryz.ntmps152;go_wp2_with fail;go_ret;exact ⟨Ae HC.out.symm,by go_grown⟩
 ·have HC:Hid (Bm s=P.nameOk s):=by
   show _=_
   have:s.size≠0:=fun e=>h (ByteArray.ext (Array.eq_empty_of_size_eq_zero e))
   simp [Bm,this]
  have hte:¬ s.toList=[]:=by
   rw [ByteArray.toList_eq];exact fun e=>h (by cases s with | mk x=>cases x;simp at e;simp [e])
  have HZ:Hid (s.size≤maxLen):=hs;clear h hs;go_enter Tryz.func152,Tryz.ntmps152;go_wp2_with fail;refine (Br _ _ HZ.out).mono ?_;rintro e w1 ⟨rfl,rfl⟩;go_wp2_with fail;go_ret;have hem:s.toList.isEmpty=false:=by simpa using hte
  exact ⟨Ae (by rw [hem,Bool.false_or];exact HC.out.symm),by go_grown⟩
def Fl (l:Lik):Bool:=decide (Ay l.select=0) && inR l.weight (-9) 9
def Da (xs:List Lik):Bool:=decide (xs.length≤5) && xs.all Fl
theorem Wi (xs:List Lik) (a:Option Addr) (cap lo:Nat) (w:World) (hin:SliceC LikC 2 lo w a xs) :
  Calls Tryz.prog 151 #[.slice a xs.length cap] w fun e w'=>e=.returned (.bool (Da xs))∧Below w.heap.size w w':=by
 have hlen:=hin.1;unfold maxLen at hlen;have HI:Hid (SliceC LikC 2 lo w a xs):=hin;clear hin;by_cases h5:xs.length≤5
 ·go_enter Tryz.func151,Tryz.ntmps151
  go_wp2_with fail;go_loopw [10] (fun i wr=>∃ k:Nat,k≤xs.length∧i=.int .i64 k∧Hid (∀ j x,j<k→xs[j]?=some x→Fl x=true)∧Below w.heap.size w wr) (fun i _=>xs.length - (intOf i).toNat)
  case atStart=>exact ⟨0,Nat.zero_le _,rfl,fun j x h=>absurd h (Nat.not_lt_zero _),by go_grown⟩
  case round =>
   obtain ⟨k,hk,rfl,ho,hbel⟩:=hrel;by_cases hlt:k<xs.length
   ·obtain ⟨x,hx⟩:∃ x,xs[k]?=some x:=⟨xs[k],List.getElem?_eq_getElem hlt⟩
    obtain ⟨b,o,rfl,_,_,hc⟩:=(HI.out.below LikC.holds hbel nL).at hx;obtain ⟨q0,q1,z0⟩:=hc;simp only [Nat.add_zero] at q0 q1;have HX:Hid (xs[k]?=some x):=hx;have HZ:Hid (x.select.size≤maxLen):=z0;have HB:Hid (Below w.heap.size w wr):=hbel;have HSZ:Hid (w.heap.size≤wr.heap.size):=hbel.size;clear hx z0 hbel;go_upto_region 6 with fail;have e0:(wr.alloc (Obj.cells #[.string x.select,.int .i64 x.weight] 135)).cell? ⟨wr.heap.size,0,none⟩=some (.string x.select):=by simp
    have e1:(wr.alloc (Obj.cells #[.string x.select,.int .i64 x.weight] 135)).cell? ⟨wr.heap.size,1,none⟩=some (.int .i64 x.weight):=by simp
    have HB4:Hid (Below w.heap.size w (wr.alloc (Obj.cells #[.string x.select,.int .i64 x.weight] 135))):=HB.out.alloc HSZ.out _;have hs4:wr.heap.size<(wr.alloc (Obj.cells #[.string x.select,.int .i64 x.weight] 135)).heap.size:=by simp
    clear HB HSZ q0 q1;generalize wr.alloc (Obj.cells #[.string x.select,.int .i64 x.weight] 135)=w4 at *;cases hr:decide (Ay x.select=0)
    ·have HC:Hid (Da xs=false):=by
      show _=_
      have hm:=List.mem_of_getElem? HX.out;have:Fl x=false:=by simp [Fl,hr]
      have:xs.all Fl=false:=List.all_eq_false.mpr ⟨x,hm,by simp [this]⟩;simp [Da,this]
     have HR:Hid (decide (Ay x.select=0)=false):=hr;clear hr;go_wp2_with fail;refine (Ka _ _ HZ.out).mono ?_;rintro e w5 ⟨rfl,hb5⟩;rw [HR.out];have HB5:Hid (Below w.heap.size w w5):=HB4.out.trans (hb5.mono HB4.out.size);clear hb5;go_wp2_with fail;go_ret;exact ⟨Ae HC.out.symm,HB5.out⟩
    ·have HR:Hid (decide (Ay x.select=0)=true):=hr
     go_wp2_with fail;refine (Ka _ _ HZ.out).mono ?_;rintro e w5 ⟨rfl,hb5⟩;rw [HR.out];have e5:w5.cell? ⟨wr.heap.size,1,none⟩=some (.int .i64 x.weight):=by rw [hb5.cell (p:=⟨wr.heap.size,1,none⟩) hs4];exact e1
     have HB5:Hid (Below w.heap.size w w5):=HB4.out.trans (hb5.mono HB4.out.size);clear hb5 e0 e1 hs4 HB4;go_wp2_with fail;refine (Ha _ _ _ _).mono ?_;rintro e w6 ⟨rfl,hb6⟩;have HB6:Hid (Below w.heap.size w w6):=HB5.out.trans (hb6.mono HB5.out.size);clear hb6 HB5 e5;cases hi:inR x.weight (-9) 9
     ·have HC:Hid (Da xs=false):=by
       show _=_
       have hm:=List.mem_of_getElem? HX.out;have:Fl x=false:=by simp [Fl,hi]
       have:xs.all Fl=false:=List.all_eq_false.mpr ⟨x,hm,by simp [this]⟩;simp [Da,this]
      clear hi hr;go_wp2_with fail;go_ret;exact ⟨Ae HC.out.symm,HB6.out⟩
     ·have HO:Hid (∀ j y,j<k+1→xs[j]?=some y→Fl y=true):=by
       intro j y hj hy;by_cases e:j=k
       ·subst e
        rw [HX.out] at hy;cases hy
        simp only [Fl,hi,HR.out,Bool.and_self]
       ·exact ho.out j y (by omega) hy
      clear hi hr ho;go_wp2_with fail;go_roundw
      case rel=>exact ⟨k+1,by omega,by go_num,HO,HB6.out⟩
      case measure=>simp [intOf];omega
   ·have hke:k=xs.length:=by omega
    subst hke;have HC:Hid (Da xs=true):=by
     show _=_
     simp only [Da,h5,decide_true,Bool.true_and,List.all_eq_true];intro x hx;obtain ⟨j,hj,e⟩:=List.mem_iff_getElem.mp hx;exact ho.out j x hj (by rw [List.getElem?_eq_getElem hj,e])
    clear ho;go_wp2_with fail;go_ret;exact ⟨Ae HC.out.symm,hbel⟩
 ·have HC:Hid (Da xs=false):=by show _=_;simp [Da,h5]
  go_enter Tryz.func151,Tryz.ntmps151;go_wp2_with fail;go_ret;exact ⟨Ae HC.out.symm,by go_grown⟩
theorem Qb (s:ByteArray) (c:Int) (w:World) :
  Calls Tryz.prog 169 #[.string s,.int .u8 c] w fun e w'=>e=.returned (.int .i64 (Lib.indexByte s.data.toList c.toNat.toUInt8))∧w'=w:=by
 go_enter Tryz.func169,Tryz.ntmps169
 go_wp2
 rw [run_callFunc_extern Tryz.func176 (by kernel_rfl) (by kernel_rfl) (by kernel_rfl) (e:=Extern.BytealgIndexByte.indexByte) (by kernel_rfl),Lib.run_indexByteString];simp only [Result.andThen];rw [Oper.upon_value]
 go_wp2
 go_ret;exact ⟨rfl,rfl⟩
def Bu (s:ByteArray):Int:=Lib.indexByte s.data.toList 61
def Ax (s:ByteArray):ByteArray:=if Bu s<0 then s else s.extract 0 (Bu s).toNat
def Gw (s:ByteArray):ByteArray:=if Bu s<0 then ⟨#[]⟩ else s.extract ((Bu s).toNat+1) s.size
def Db (s:ByteArray):Bool:=P.nameOk (Ax s) && (decide (Bu s<0) || P.nameOk (Gw s))
theorem Qj (s:ByteArray) (w:World) :
  Calls Tryz.prog 165 #[.string s,.string ⟨#[61]⟩] w fun e w'=>e=.returned (.int .i64 (Bu s))∧w'=w:=by
 go_enter Tryz.func165,Tryz.ntmps165;go_wp2_with (go_at_call 169;refine (Qb _ _ _).mono ?_;rintro e w' ⟨rfl,rfl⟩)
 ·have h:([61] == s.toList)=true:=by assumption
  go_ret;refine ⟨?_,rfl⟩;have e:s.data.toList=[61]:=by rw [← Lib.toList_data];exact (beq_iff_eq.1 h).symm
  unfold Bu;rw [e];simp [Lib.indexByte]
 ·go_ret
  exact ⟨rfl,rfl⟩
theorem Om (s:ByteArray):-1≤Bu s:=Lib.indexByte_ge _ _
theorem Vh {s:ByteArray} {o:Nat} (h:Bu s=o):o<s.size:=by
 have:=(Lib.indexByte_some h).1;rcases Nat.lt_or_ge o s.data.toList.length with h' | h'
 ·simpa using h'
 ·rw [List.getElem?_eq_none h'] at this;cases this
theorem Uv (s:ByteArray) (w:World) (hs:s.size≤maxLen) :
  Calls Tryz.prog 161 #[.string s,.string ⟨#[61]⟩] w fun e w'=>e=.returned (.tuple #[.string (Ax s),.string (Gw s),.bool (!decide (Bu s<0))])∧Below w.heap.size w w':=by
 unfold maxLen at hs;by_cases hn:Bu s<0
 ·have HN:Hid (Bu s<0):=hn
  have h1:Bu s=-1:=by have:=Om s;omega
  go_enter Tryz.func161,Tryz.ntmps161;go_wp2_with (go_at_call 165;refine (Qj _ _).mono ?_;rintro e w' ⟨rfl,rfl⟩;rw [h1])
  go_ret3
  exact ⟨by unfold Ax Gw;rw [if_pos HN.out,if_pos HN.out,decide_eq_true HN.out];rfl,by go_grown⟩
 ·obtain ⟨o,ho⟩:∃ o:Nat,Bu s=o:=⟨(Bu s).toNat,by omega⟩
  have hlt:=Vh ho;have HN:Hid (¬ Bu s<0):=hn;have HO:Hid (Bu s=o):=ho;clear hn;go_enter Tryz.func161,Tryz.ntmps161;go_wp2_with (go_at_call 165;refine (Qj _ _).mono ?_;rintro e w' ⟨rfl,rfl⟩;rw [HO.out]);have i0:(0:Int)≤(o:Int):=by omega
  have i1:(o:Int)≤(s.size:Int):=by omega
  obtain ⟨n1,hn1⟩:∃ n1:Nat,n1=o+1:=⟨_,rfl⟩;have i2:(n1:Int)≤(s.size:Int):=by omega
  have i3:(0:Int)≤(n1:Int):=by omega
  have HW:Hid (IntKind.i64.wrap ((o:Int)+1)=(n1:Int)):=by show _=_;rw [IntKind.wrap_i64];omega
  have HN1:Hid (n1=o+1):=hn1;clear hn1;clear ho;refine wp_region_quiet_below (by kernel_rfl) (by kernel_rfl) ?_
  repeat (quiet_step (fail))
  rw [HW.out]
  repeat (quiet_step (fail))
  refine wpQuiet_nil ?_;intro _ hw';obtain ⟨⟨dq,osq⟩,hw''⟩:=hw';have hB:=below_regrown w' dq osq;simp only [] at hw'';rw [← hw''] at hB;clear hw'';have HB:Hid (Below w'.heap.size w' _):=hB;clear hB;go_wp2_with fail
  go_ret3
  have HN2:¬ Bu s<0:=by have:=HN.out;omega
  refine ⟨?_,HB.out⟩;unfold Ax Gw;rw [if_neg HN2,if_neg HN2,decide_eq_false HN2,HO.out];simp [HN1.out]
theorem Nr (s:ByteArray) (w:World) (hs:s.size≤maxLen) :
  Calls Tryz.prog 149 #[.string s,.string ⟨#[61]⟩] w fun e w'=>e=.returned (.tuple #[.string (Ax s),.string (Gw s),.bool (!decide (Bu s<0))])∧Below w.heap.size w w':=by
 have HS:Hid (s.size≤maxLen):=hs;clear hs;go_enter Tryz.func149,Tryz.ntmps149;go_wp2_with fail;refine (Uv s _ HS.out).mono ?_;rintro e w1 ⟨rfl,hb⟩;have HB:Hid (Below w.heap.size w w1):=(show Below w.heap.size w _ by go_grown).trans (hb.mono (by simp));clear hb;go_wp2_with fail
 go_ret3
 exact ⟨rfl,HB.out⟩
theorem Hw {s:ByteArray} (hs:s.size≤maxLen):(Ax s).size≤maxLen:=by
 unfold Ax
 split
 ·exact hs
 ·simp [ByteArray.size_extract];omega
theorem Qs {s:ByteArray} (hs:s.size≤maxLen):(Gw s).size≤maxLen:=by
 unfold Gw
 split
 ·simp [ByteArray.size,maxLen]
 ·simp [ByteArray.size_extract];omega
theorem Ow (s:ByteArray) (w:World) (hs:s.size≤maxLen) :
  Calls Tryz.prog 148 #[.string s] w fun e w'=>e=.returned (.bool (Db s))∧Below w.heap.size w w':=by
 have HS:Hid (s.size≤maxLen):=hs;have HM:Hid (Db s=(P.nameOk (Ax s) && (decide (Bu s<0) || P.nameOk (Gw s)))):=rfl;clear hs;generalize Db s=R at *;go_enter Tryz.func148,Tryz.ntmps148;go_wp2_with fail;refine (Nr s _ HS.out).mono ?_;rintro e w1 ⟨rfl,hb⟩;have HB:Hid (Below w.heap.size w w1):=(show Below w.heap.size w _ by go_grown).trans (hb.mono (by simp));clear hb;have Z1:Hid ((Ax s).size≤maxLen):=Hw HS.out;have Z2:Hid ((Gw s).size≤maxLen):=Qs HS.out;generalize Ax s=x at *;generalize Gw s=y at *;generalize decide (Bu s<0)=b at *;go_wp2_with fail;refine (Br x _ Z1.out).mono ?_;rintro e w2 ⟨rfl,rfl⟩
 cases hx:P.nameOk x with
 | false =>
  rw [hx] at HM;go_wp2_with fail;go_ret;exact ⟨Ae (by rw [HM.out];rfl),HB.out⟩
 | true =>
  rw [hx] at HM
  cases b with
  | true =>
   go_wp2_with fail;go_ret;exact ⟨Ae (by rw [HM.out];rfl),HB.out⟩
  | false =>
   go_wp2_with fail;refine (Br y _ Z2.out).mono ?_;rintro e w2 ⟨rfl,rfl⟩;generalize P.nameOk y=c at *;go_wp2_with fail;go_ret;exact ⟨Ae (by rw [HM.out];simp),HB.out⟩
end Go.Proofs.YtpeajnkkdioflaaGreat
