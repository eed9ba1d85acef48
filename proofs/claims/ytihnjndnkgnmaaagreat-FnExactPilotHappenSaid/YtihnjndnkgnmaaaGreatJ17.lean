import Derived.Test.YtihnjndnkgnmaaaGreatJ16
set_option maxHeartbeats 2000000
set_option maxRecDepth 100000
namespace Go.Proofs.YtihnjndnkgnmaaaGreat
open Go.RowKit
theorem eK (p:Nat) (t:BA) (f:Nat) (H:∀ g,g≤f→Hf 174 0 1 p t g) (ht:t.size≤200):Hf 169 1 2 p t (f+1):=by
 intro i w hr hi hf;have HR:=iH hr;have HH:Hid (∀ g,g≤f→Hf 174 0 1 p t g):=H;have HF:=iH hf;clear hr H hf;go_enter Tryz.func169,Tryz.ntmps169;go_wp2_with fail;refine (Td p t f HH i _ HR hi ht HF).mono ?_;rintro e w1 (⟨y,k,h1,rfl,h2,h3,h4⟩ | ⟨h1,q,rfl,h4⟩)
 ·have H:Hid (Rds p t (P.rd (f+1) 1 P.nonT (Af t i)) w (.returned (.tuple #[val y,.nilIface])) w1):=.inl ⟨y,k,h1,rfl,h2,h3,h4⟩
  clear h1 h3 h4;go_wp2_with fail
  go_ret2
  exact H.out
 ·have H:Hid (Rds p t (P.rd (f+1) 1 P.nonT (Af t i)) w (.returned (.tuple #[.nilIface,Ka q])) w1):=.inr ⟨h1,q,rfl,h4⟩
  clear h1 h4;go_wp2_with fail
  go_ret2
  exact H.out
theorem Zq (p:Nat) (t:BA) (f:Nat) (H:∀ g,g≤f→Hf 169 1 2 p t g) (ht:t.size≤200):Hf 160 2 3 p t (f+1):=by
 intro i w hr hi hf;have HR:=iH hr;have HH:Hid (∀ g,g≤f→Hf 169 1 2 p t g):=H;have HF:=iH hf;clear hr H hf;go_enter Tryz.func160,Tryz.ntmps160;go_wp2_with fail;refine (Wt p t f HH i _ HR hi ht HF).mono ?_;rintro e w1 (⟨y,k,h1,rfl,h2,h3,h4⟩ | ⟨h1,q,rfl,h4⟩)
 ·have H:Hid (Rds p t (P.rd (f+1) 2 P.nonT (Af t i)) w (.returned (.tuple #[val y,.nilIface])) w1):=.inl ⟨y,k,h1,rfl,h2,h3,h4⟩
  clear h1 h3 h4;go_wp2_with fail
  go_ret2
  exact H.out
 ·have H:Hid (Rds p t (P.rd (f+1) 2 P.nonT (Af t i)) w (.returned (.tuple #[.nilIface,Ka q])) w1):=.inr ⟨h1,q,rfl,h4⟩
  clear h1 h4;go_wp2_with fail
  go_ret2
  exact H.out
def brk (f:Nat) (l:List (List UInt8)):Option (P.Tr×List (List UInt8)):=match P.rd f 2 P.nonT l with
 | none=>none
 | some (y,r')=>match P.tk 41 r' with
  | none=>none
  | some r''=>some (y,r'')
theorem iV (p:Nat) (t:BA) (f:Nat) (H:Hf 160 2 3 p t f) (i:Nat) (w:World) (hr:RdAt w p t i) (hi:i≤t.size) (ht:t.size≤200) (hf:4*(Af t i).length+3≤f) :
  Calls Tryz.prog 178 #[.pointer (some ⟨p,0,none⟩)] w fun e w'=>Rds p t (brk f (Af t i)) w e w':=by
 have HR:=iH hr;have HH:Hid (Hf 160 2 3 p t f):=H;have HF:=iH hf
 have HM:Hid (brk f (Af t i)=match P.rd f 2 P.nonT (Af t i) with
  | none=>none
  | some (y,r')=>match P.tk 41 r' with
   | none=>none
   | some r''=>some (y,r'')):=rfl
 generalize brk f (Af t i)=M at *;clear hr H hf;go_enter Tryz.func178,Tryz.ntmps178;go_wp2_with fail;refine (HH i _ HR hi HF).mono ?_;rintro e w1 (⟨y,k,h1,rfl,h2,h3,h4⟩ | ⟨h1,q,rfl,h4⟩)
 ·have H3:=iH h3
  have H4:=iH h4
  have HM2:Hid (M=match P.tk 41 (Af t k) with
   | none=>none
   | some r''=>some (y,r'')):=by rw [HM.out,h1];rfl
  clear h1 h3 h4 HM;go_wp2_with fail;refine (Hp p t k 41 _ H3 h2 ht (by decide) (by decide)).mono ?_;rintro e w2 ⟨k2,rfl,g1,g2,g3,g4,g5⟩;have G4:=iH g4;have G5:Hid (But p w.heap.size w w2):=H4.out.trans (g5.mono H4.out.size);have G3:=iH g3;clear g3 g4 g5
  cases hT:P.tk 41 (Af t k) with
  | none =>
   have HR1:Hid (M=none):=by rw [HM2.out,hT];rfl
   clear hT HM2 G3;go_wp2_with fail;refine (Ht p t k2 _ G4).mono ?_;rintro e w3 ⟨rfl,hb3⟩;have F4:Hid (But p w.heap.size w w3):=G5.out.trans (hb3.mono G5.out.size);clear hb3;go_wp2_with fail
   go_ret2
   exact .inr ⟨HR1,_,rfl,F4⟩
  | some r' =>
   have HR1:Hid (M=some (y,Af t k2)):=by rw [HM2.out,hT];simp only [];rw [G3.out,hT];rfl
   clear hT HM2 G3;go_wp2_with fail
   go_ret2
   exact .inl ⟨y,k2,HR1,rfl,g2,G4,G5⟩
 ·have HR1:Hid (M=none):=by rw [HM.out,h1];rfl
  have H4:=iH h4;clear h1 h4 HM;simp only [Ka];go_wp2_with fail
  go_ret2
  exact .inr ⟨HR1,q,rfl,H4⟩
theorem Xu (p:Nat) (t:BA) (f:Nat) (H:Hf 174 0 1 p t f) (HE:Hf 160 2 3 p t f) (ht:t.size≤200):Hf 174 0 1 p t (f+1):=by
 intro i w hr hi hf;have HR:=iH hr;have HH:Hid (Hf 174 0 1 p t f):=H;have HE':Hid (Hf 160 2 3 p t f):=HE;have HF:=iH hf
 have HM:Hid (P.rd (f+1) 0 P.nonT (Af t i)=match P.tk 33 (Af t i) with
  | some r=>match P.rd f 0 P.nonT r with
   | none=>none
   | some (y,r')=>some (P.ntT y,r')
  | none=>match P.tk 40 (Af t i) with
   | some r=>brk f r
   | none=>P.markT (Af t i)):=rfl
 generalize P.rd (f+1) 0 P.nonT (Af t i)=M at *;clear hr H hf HE;go_enter Tryz.func174,Tryz.ntmps174;go_wp2_with fail;refine (Hp p t i 33 _ HR hi ht (by decide) (by decide)).mono ?_;rintro e w2 ⟨k2,rfl,g1,g2,g3,g4,g5⟩;have G4:=iH g4;have G5:=iH g5;have G3:=iH g3;clear g3 g4 g5
 cases hT:P.tk 33 (Af t i) with
 | some r' =>
  have G3':Hid (Af t k2=r'):=by rw [G3.out,hT];rfl
  have hl2:Hid ((Af t k2).length+1=(Af t i).length):=by rw [G3'.out];exact P.tk_len hT
  have HM2:Hid (M=match P.rd f 0 P.nonT (Af t k2) with
   | none=>none
   | some (y,r')=>some (P.ntT y,r')):=by rw [HM.out,hT];simp only [];rw [G3'.out];rfl
  clear hT HM G3 G3';go_wp2_with fail;refine (HH k2 _ G4 g2 (by have:=HF.out;have:=hl2.out;omega)).mono ?_;rintro e w3 (⟨z,k3,f1,rfl,f2,f3,f4⟩ | ⟨f1,q,rfl,f4⟩)
  ·obtain ⟨b1,b2,b3,b4,b5,b6⟩:=P.rd_rd f 0 P.nonT _ _ _ (fun h=>by omega) f1
   rw [if_pos (by omega)] at b5;have HM3:Hid (M=some (P.ntT z,Af t k3)):=by rw [HM2.out,f1];rfl
   have F3:=iH f3;have F4:Hid (But p w.heap.size w w3):=G5.out.trans (f4.mono G5.out.size);have HW:=iH b3;have HZ:Hid (P.tall z≤1000):=by show _≤_;have:=Hq (i:=k2) ht;omega
   clear f1 f3 f4 HM2 b1 b2 b3 b4 b5 b6;go_wp2_with fail;refine (Yp z HW HZ _).mono ?_;rintro e w4 ⟨rfl,hb4⟩;have E3:Hid (RdAt w4 p t k3):=F3.out.below hb4 F3.out.lt;have E4:Hid (But p w.heap.size w w4):=F4.out.trans ((But.of_below hb4).mono F4.out.size);clear hb4;go_wp2_with fail
   go_ret2
   exact .inl ⟨_,k3,HM3,rfl,f2,E3,E4⟩
  ·have HR1:Hid (M=none):=by rw [HM2.out,f1];rfl
   have F4:Hid (But p w.heap.size w w3):=G5.out.trans (f4.mono G5.out.size);clear f1 f4 HM2;simp only [Ka];go_wp2_with fail
   go_ret2
   exact .inr ⟨HR1,q,rfl,F4⟩
 | none =>
  have G3':Hid (Af t k2=Af t i):=by rw [G3.out,hT];rfl
  have HM2:Hid (M=match P.tk 40 (Af t k2) with
   | some r=>brk f r
   | none=>P.markT (Af t k2)):=by rw [HM.out,hT,G3'.out];rfl
  clear hT HM G3;go_wp2_with fail;refine (Hp p t k2 40 _ G4 g2 ht (by decide) (by decide)).mono ?_;rintro e w3 ⟨k3,rfl,f1,f2,f3,f4,f5⟩;have F4:=iH f4;have F5:Hid (But p w.heap.size w w3):=G5.out.trans (f5.mono G5.out.size);have F3:=iH f3;clear f3 f4 f5
  cases hT:P.tk 40 (Af t k2) with
  | some r' =>
   have F3':Hid (Af t k3=r'):=by rw [F3.out,hT];rfl
   have hl2:Hid ((Af t k3).length+1=(Af t i).length):=by rw [F3'.out,← G3'.out];exact P.tk_len hT
   have HM3:Hid (M=brk f (Af t k3)):=by rw [HM2.out,hT,F3'.out];rfl
   clear hT HM2 F3 F3' G3';go_wp2_with fail;refine (iV p t f HE'.out k3 _ F4 f2 ht (by have:=HF.out;have:=hl2.out;omega)).mono ?_;rintro e w4 (⟨z,k4,d1,rfl,d2,d3,d4⟩ | ⟨d1,q,rfl,d4⟩)
   ·have H:Hid (Rds p t M w (.returned (.tuple #[val z,.nilIface])) w4):=.inl ⟨z,k4,HM3.out.trans d1,rfl,d2,d3,F5.out.trans (d4.mono F5.out.size)⟩
    clear d1 d3 d4;go_wp2_with fail
    go_ret2
    exact H.out
   ·have H:Hid (Rds p t M w (.returned (.tuple #[.nilIface,Ka q])) w4):=.inr ⟨HM3.out.trans d1,q,rfl,F5.out.trans (d4.mono F5.out.size)⟩
    clear d1 d4;go_wp2_with fail
    go_ret2
    exact H.out
  | none =>
   have HM3:Hid (M=P.markT (Af t k3)):=by rw [HM2.out,hT,F3.out,hT];rfl
   clear hT HM2 F3 G3';go_wp2_with fail;refine (dX p t k3 _ F4 f2 ht).mono ?_;rintro e w4 (⟨z,k4,d1,rfl,d2,d3,d4⟩ | ⟨d1,q,rfl,d4⟩)
   ·have H:Hid (Rds p t M w (.returned (.tuple #[val z,.nilIface])) w4):=.inl ⟨z,k4,HM3.out.trans d1,rfl,d2,d3,F5.out.trans (d4.mono F5.out.size)⟩
    clear d1 d3 d4;go_wp2_with fail
    go_ret2
    exact H.out
   ·have H:Hid (Rds p t M w (.returned (.tuple #[.nilIface,Ka q])) w4):=.inr ⟨HM3.out.trans d1,q,rfl,F5.out.trans (d4.mono F5.out.size)⟩
    clear d1 d4;go_wp2_with fail
    go_ret2
    exact H.out
theorem Mh (F:FuncId) (m c p:Nat) (t:BA) (hc:1≤c):Hf F m c p t 0:=by
 intro i w _ _ hf;omega
theorem fH (p:Nat) (t:BA) (ht:t.size≤200):∀ f g,g≤f→Hf 174 0 1 p t g∧Hf 169 1 2 p t g∧Hf 160 2 3 p t g
 | 0,g,hg=>by
  have:g=0:=by omega
  subst this;exact ⟨Mh _ _ _ _ _ (by omega),Mh _ _ _ _ _ (by omega),Mh _ _ _ _ _ (by omega)⟩
 | f+1,g,hg=>by
  have ih:=fH p t ht f;by_cases h:g≤f
  ·exact ih g h
  ·have:g=f+1:=by omega
   subst this;exact ⟨Xu p t f (ih f nL).1 (ih f nL).2.2 ht,eK p t f (fun g hg=>(ih g hg).1) ht,Zq p t f (fun g hg=>(ih g hg).2.1) ht⟩
def Bc (t:BA):Nat :=
 if 200<t.size then 1
 else if Af t 0=[] then 0
 else match P.rd 1000 2 P.nonT (Af t 0) with
  | some (y,[])=>if 20<P.tall y then 3 else 0
  | _=>2
def Hh (t:BA):P.Tr :=
 if Af t 0=[] then P.nonT
 else match P.rd 1000 2 P.nonT (Af t 0) with
  | some (y,_)=>y
  | none=>P.nonT
def lQ (t:BA) (w:World) (e:Ending) (w':World):Prop :=
 ((Bc t=0∧e=.returned (.tuple #[val (Hh t),.nilIface]))∨(Bc t≠0∧∃ q,e=.returned (.tuple #[.nilIface,.iface 208 (.agg #[.int .i64 (Bc t:Nat),.int .i64 q])])))∧Below w.heap.size w w'
theorem aI {t:BA} {k:Nat} (hk:k<t.size) (hs:aG t k):Af t k≠[]:=by
 obtain ⟨l,r,e⟩:=My hk (hs hk);rw [e];exact fun h=>by cases h
theorem fQ (t:BA) (w:World) (hm:t.size≤maxLen) :
  Calls Tryz.prog 152 #[.string t] w fun e w'=>lQ t w e w':=by
 unfold maxLen at hm;by_cases hbig:(200:Int)<t.size
 ·have HC:Hid (Bc t=1):=by show _=_;unfold Bc;rw [if_pos (by omega)]
  go_enter Tryz.func152,Tryz.ntmps152;go_wp2_with fail
  go_ret2
  exact ⟨.inr ⟨by rw [HC.out];omega,200,by rw [HC.out];rfl⟩,Below.refl _ _⟩
 have ht:t.size≤200:=by omega
 have HC:Hid (Bc t=if Af t 0=[] then 0 else match P.rd 1000 2 P.nonT (Af t 0) with
  | some (y,[])=>if 20<P.tall y then 3 else 0
  | _=>2):=by show _=_;unfold Bc;rw [if_neg (by omega)]
 have HT:Hid (Hh t=if Af t 0=[] then P.nonT else match P.rd 1000 2 P.nonT (Af t 0) with
  | some (y,_)=>y
  | none=>P.nonT):=rfl
 go_enter Tryz.func152,Tryz.ntmps152;go_wp2_with fail;have W0:Hid (RdAt (w.alloc (Obj.cells #[.string t,.int .i64 0] 211)) w.heap.size t 0):=⟨by simp,by simp,by simp⟩;have B0:=iH ((Below.refl _ w).alloc nL (Obj.cells #[.string t,.int .i64 0] 211));generalize w.alloc (Obj.cells #[.string t,.int .i64 0] 211)=w0 at *;refine (Jl w.heap.size t 0 _ W0 (zL) ht).mono ?_;rintro e w1 ⟨k,rfl,_,k2,k3,k4,k5,k6⟩;have H3:=iH k3;have H4:=iH k4;have H5:=iH k5;have B1:=iH (B0.out.trans (k6.below B0.out.size nL));clear k3 k4 k5 k6 B0 W0;by_cases hk:k=t.size
 ·rw [decide_eq_true hk]
  have he:Af t 0=[]:=by rw [← H3.out,Gl (by omega)]
  have HC0:Hid (Bc t=0):=by rw [HC.out,if_pos he];rfl
  have HT0:Hid (Hh t=P.nonT):=by rw [HT.out,if_pos he];rfl
  clear he hk;go_wp2_with fail
  go_ret2
  exact ⟨.inl ⟨HC0,by rw [HT0.out];rfl⟩,B1⟩
 rw [decide_eq_false hk];have he:¬ Af t 0=[]:=by rw [← H3.out];exact aI (by omega) H4
 have HC1:Hid (Bc t=match P.rd 1000 2 P.nonT (Af t k) with
  | some (y,[])=>if 20<P.tall y then 3 else 0
  | _=>2):=by rw [HC.out,if_neg he,H3.out];rfl
 have HT1:Hid (Hh t=match P.rd 1000 2 P.nonT (Af t k) with
  | some (y,_)=>y
  | none=>P.nonT):=by rw [HT.out,if_neg he,H3.out];rfl
 clear he hk HC HT;go_wp2_with fail;refine ((fH w.heap.size t ht 1000 1000 nL).2.2 k _ H5 k2 (by have:=Hq (i:=k) ht;omega)).mono ?_;rintro e w2 (⟨y,k3,f1,rfl,f2,f3,f4⟩ | ⟨f1,q,rfl,f4⟩)
 ·obtain ⟨b1,b2,b3,b4,b5,b6⟩:=P.rd_rd 1000 2 P.nonT _ _ _ (fun h=>by omega) f1
  have HT2:Hid (Hh t=y):=by rw [HT1.out,f1];rfl
  have HC2:Hid (Bc t=match Af t k3 with
   | []=>if 20<P.tall y then 3 else 0
   | _=>2):=by rw [HC1.out,f1];cases Af t k3 <;> rfl
  have F3:=iH f3;have B2:=iH (B1.out.trans (f4.below B1.out.size nL));have HW:=iH b3;clear f1 f3 f4 HT1 HC1 b1 b2 b3 b4 b5 b6;go_wp2_with fail;refine (Jl w.heap.size t k3 _ F3 f2 ht).mono ?_;rintro e w3 ⟨k4,rfl,_,d2,d3,d4,d5,d6⟩;have D3:=iH d3;have D4:=iH d4;have D5:=iH d5;have B3:=iH (B2.out.trans (d6.below B2.out.size nL));clear d3 d4 d5 d6 B2 F3;by_cases hk:k4=t.size
  ·rw [decide_eq_true hk]
   have he:Af t k3=[]:=by rw [← D3.out,Gl (by omega)]
   have HC3:Hid (Bc t=if 20<P.tall y then 3 else 0):=by rw [HC2.out,he];rfl
   clear he hk HC2 D3 D4 D5;obtain ⟨ty,v,hv⟩:=Fa HW;have HV:=iH hv;rw [hv];clear hv;go_wp2_with (refine Ha rfl (.tmp 32) _ #[] #[] rfl _ rfl #[] (Lp _) _ (Jy ⟨fun _=>by kernel_rfl,fun _ _=>by kernel_rfl,fun _ _ _=>by kernel_rfl,fun _ _ _=>by kernel_rfl,fun _ _ _ _=>by kernel_rfl,fun _ _ _ _=>by kernel_rfl⟩ HW HV _) ?_;rintro u w4 ⟨rfl,hb4⟩)
   ·have hgt:20<P.tall y:=by omega
    have HC4:Hid (Bc t=3):=by rw [HC3.out,if_pos hgt];rfl
    go_ret2
    exact ⟨.inr ⟨by rw [HC4.out];omega,_,by rw [HC4.out];rfl⟩,B3.out.trans (hb4.mono B3.out.size)⟩
   ·have hgt:¬ 20<P.tall y:=by omega
    have HC4:Hid (Bc t=0):=by rw [HC3.out,if_neg hgt];rfl
    go_ret2
    exact ⟨.inl ⟨HC4,by rw [HT2.out,HV.out];rfl⟩,B3.out.trans (hb4.mono B3.out.size)⟩
  ·rw [decide_eq_false hk]
   have he:Af t k3≠[]:=by rw [← D3.out];exact aI (by omega) D4
   have HC3:Hid (Bc t=2):=by
    rw [HC2.out]
    cases h:Af t k3 with
    | nil=>exact absurd h he
    | cons a l=>rfl
   clear he hk HC2 D3 D4;go_wp2_with fail;refine (Ht w.heap.size t k4 _ D5).mono ?_;rintro e w4 ⟨rfl,hb4⟩;have B4:=iH (B3.out.trans (hb4.below B3.out.size nL));clear hb4;go_wp2_with fail
   go_ret2
   exact ⟨.inr ⟨by rw [HC3.out];omega,_,by rw [HC3.out];rfl⟩,B4⟩
 ·have HC2:Hid (Bc t=2):=by rw [HC1.out,f1];rfl
  have B2:=iH (B1.out.trans (f4.below B1.out.size nL));clear f1 f4 HT1 HC1;simp only [Ka];go_wp2_with fail
  go_ret2
  exact ⟨.inr ⟨by rw [HC2.out];omega,q,by rw [HC2.out];rfl⟩,B2⟩
theorem Ki (t:BA) (w:World) (hm:t.size≤maxLen) :
  Calls Tryz.prog 135 #[.string t] w (Rt (.bool (decide (Bc t=0))) w):=by
 go_enter Tryz.func135,Tryz.ntmps135;go_wp2_with fail;refine (fQ t _ hm).mono ?_;rintro e w1 ⟨⟨h1,rfl⟩ | ⟨h1,q,rfl⟩,hb⟩
 ·have HC:Hid (decide (Bc t=0)=true):=decide_eq_true h1
  clear h1;go_wp2_with fail;go_ret;exact ⟨Ah HC.out.symm,hb⟩
 ·have HC:Hid (decide (Bc t=0)=false):=decide_eq_false h1
  clear h1;go_wp2_with fail;go_ret;exact ⟨Ah HC.out.symm,hb⟩
end Go.Proofs.YtihnjndnkgnmaaaGreat
