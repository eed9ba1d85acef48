import Derived.Test.YthboopnmbglkjaaGreatJ7
set_option maxHeartbeats 2000000
set_option maxRecDepth 100000
namespace Go.Proofs.YthboopnmbglkjaaGreat
open Go.RowKit Tryz
theorem tX(p:Nat)(t:BA)(f:Nat)(H:∀g,g<=f->Jq 208 0 1 p t g)(ht:t.size<=200):Jq 202 1 2 p t (f+1):=by
 intro i w hr hi hf;have HR:=iH hr;have HH:Hid (∀g,g<=f->Jq 208 0 1 p t g):=H;have HF:=iH hf;clear hr H hf;go_enter func202,ntmps202;go_wp2_with fail;refine(cM p t f HH i _ HR hi ht HF).mono ?_;rintro e w1 (⟨y,k,h1,rfl,h2,h3,h4⟩|⟨h1,q,rfl,h4⟩)
 .have H:Hid (Rds p t (P.rd (f+1) 1 P.nonT (Ad t i)) w (.returned (.tuple #[val y,.nilIface])) w1):=.inl ⟨y,k,h1,rfl,h2,h3,h4⟩
  clear h1 h3 h4
  go_wp2
  go_ret2
  exact H.out
 have H:Hid (Rds p t (P.rd (f+1) 1 P.nonT (Ad t i)) w (.returned (.tuple #[.nilIface,Nv q])) w1):=.inr ⟨h1,q,rfl,h4⟩;clear h1 h4
 go_wp2
 go_ret2
 exact H.out
theorem kW(p:Nat)(t:BA)(f:Nat)(H:∀g,g<=f->Jq 202 1 2 p t g)(ht:t.size<=200):Jq 193 2 3 p t (f+1):=by
 intro i w hr hi hf;have HR:=iH hr;have HH:Hid (∀g,g<=f->Jq 202 1 2 p t g):=H;have HF:=iH hf;clear hr H hf;go_enter func193,ntmps193;go_wp2_with fail;refine(fA p t f HH i _ HR hi ht HF).mono ?_;rintro e w1 (⟨y,k,h1,rfl,h2,h3,h4⟩|⟨h1,q,rfl,h4⟩)
 .have H:Hid (Rds p t (P.rd (f+1) 2 P.nonT (Ad t i)) w (.returned (.tuple #[val y,.nilIface])) w1):=.inl ⟨y,k,h1,rfl,h2,h3,h4⟩
  clear h1 h3 h4
  go_wp2
  go_ret2
  exact H.out
 have H:Hid (Rds p t (P.rd (f+1) 2 P.nonT (Ad t i)) w (.returned (.tuple #[.nilIface,Nv q])) w1):=.inr ⟨h1,q,rfl,h4⟩;clear h1 h4
 go_wp2
 go_ret2
 exact H.out
def brk(f:Nat)(l:List (List UInt8)):Option (P.Tr×List (List UInt8)):=match P.rd f 2 P.nonT l with
 |none=>none
 |some (y,r')=>match P.tk 41 r' with
  |none=>none
  |some r''=>some (y,r'')
theorem xQ(p:Nat)(t:BA)(f:Nat)(H:Jq 193 2 3 p t f)(i:Nat)(w:World)(hr:RdAt w p t i)(hi:i<=t.size)(ht:t.size<=200)(hf:4*(Ad t i).length+3<=f) :
  Calls prog 212 #[pP p 0] w λe w'=>Rds p t (brk f (Ad t i)) w e w':=by
 have HR:=iH hr;have HH:Hid (Jq 193 2 3 p t f):=H;have HF:=iH hf
 have HM:Hid (brk f (Ad t i)=match P.rd f 2 P.nonT (Ad t i)with
  |none=>none
  |some (y,r')=>match P.tk 41 r' with
   |none=>none
   |some r''=>some (y,r'')):=rfl
 generalize brk f (Ad t i)=M at *;clear hr H hf;go_enter func212,ntmps212;go_wp2_with fail;refine(HH i _ HR hi HF).mono ?_;rintro e w1 (⟨y,k,h1,rfl,h2,h3,h4⟩|⟨h1,q,rfl,h4⟩)
 .have H3:=iH h3
  have H4:=iH h4
  have HM2:Hid (M=match P.tk 41 (Ad t k)with
   |none=>none
   |some r''=>some (y,r'')):=by rw[HM.out,h1];rfl
  clear h1 h3 h4 HM;go_wp2_with fail;refine(Kp p t k 41 _ H3 h2 ht (by decide) (by decide)).mono ?_;rintro e w2⟨k2,rfl,g1,g2,g3,g4,g5⟩;have G4:=iH g4;have G5:Hid (But p w.heap.size w w2):=H4.out.trans (g5.mono H4.out.size);have G3:=iH g3;clear g3 g4 g5
  cases hT:P.tk 41 (Ad t k)with
  |none =>
   have HR1:Hid (M=none):=by rw[HM2.out,hT];rfl
   clear hT HM2 G3;go_wp2_with fail;refine(Kb p t k2 _ G4).mono ?_;rintro e w3⟨rfl,hb3⟩;have F4:Hid (But p w.heap.size w w3):=G5.out.trans (hb3.mono G5.out.size);clear hb3
   go_wp2
   go_ret2
   exact .inr ⟨HR1,_,rfl,F4⟩
  |some r' =>
   have HR1:Hid (M=some (y,Ad t k2)):=by rw[HM2.out,hT];simp only[];rw[G3.out,hT];rfl
   clear hT HM2 G3
   go_wp2
   go_ret2
   exact .inl ⟨y,k2,HR1,rfl,g2,G4,G5⟩
 have HR1:Hid (M=none):=by rw[HM.out,h1];rfl
 have H4:=iH h4;clear h1 h4 HM;simp only[Nv]
 go_wp2
 go_ret2
 exact .inr ⟨HR1,q,rfl,H4⟩
theorem jE(p:Nat)(t:BA)(f:Nat)(H:Jq 208 0 1 p t f)(HE:Jq 193 2 3 p t f)(ht:t.size<=200):Jq 208 0 1 p t (f+1):=by
 intro i w hr hi hf;have HR:=iH hr;have HH:Hid (Jq 208 0 1 p t f):=H;have HE':Hid (Jq 193 2 3 p t f):=HE;have HF:=iH hf
 have HM:Hid (P.rd (f+1) 0 P.nonT (Ad t i)=match P.tk 33 (Ad t i)with
  |some r=>match P.rd f 0 P.nonT r with
   |none=>none
   |some (y,r')=>some (P.ntT y,r')
  |none=>match P.tk 40 (Ad t i)with
   |some r=>brk f r
   |none=>P.markT (Ad t i)):=rfl
 generalize P.rd (f+1) 0 P.nonT (Ad t i)=M at *;clear hr H hf HE;go_enter func208,ntmps208;go_wp2_with fail;refine(Kp p t i 33 _ HR hi ht (by decide) (by decide)).mono ?_;rintro e w2⟨k2,rfl,g1,g2,g3,g4,g5⟩;have G4:=iH g4;have G5:=iH g5;have G3:=iH g3;clear g3 g4 g5
 cases hT:P.tk 33 (Ad t i)with
 | some r' =>
  have G3':Hid (Ad t k2=r'):=by rw[G3.out,hT];rfl
  have hl2:Hid ((Ad t k2).length+1=(Ad t i).length):=by rw[G3'.out];exact P.tk_len hT
  have HM2:Hid (M=match P.rd f 0 P.nonT (Ad t k2)with
   |none=>none
   |some (y,r')=>some (P.ntT y,r')):=by rw[HM.out,hT];simp only[];rw[G3'.out];rfl
  clear hT HM G3 G3';go_wp2_with fail;refine(HH k2 _ G4 g2 (by have:=HF.out;have:=hl2.out;omega)).mono ?_;rintro e w3 (⟨z,k3,f1,rfl,f2,f3,f4⟩|⟨f1,q,rfl,f4⟩)
  .obtain⟨b1,b2,b3,b4,b5,b6⟩:=P.rd_rd f 0 P.nonT _ _ _ (λh=>by omega) f1
   rw[if_pos (by omega)]at b5;have HM3:Hid (M=some (P.ntT z,Ad t k3)):=by rw[HM2.out,f1];rfl
   have F3:=iH f3;have F4:Hid (But p w.heap.size w w3):=G5.out.trans (f4.mono G5.out.size);have HW:=iH b3;have HZ:Hid (P.tall z<=1000):=by show _<=_;have:=Hx (i:=k2) ht;omega
   clear f1 f3 f4 HM2 b1 b2 b3 b4 b5 b6;go_wp2_with fail;refine(kH z HW HZ _).mono ?_;rintro e w4⟨rfl,hb4⟩;have E3:Hid (RdAt w4 p t k3):=F3.out.below hb4 F3.out.lt;have E4:Hid (But p w.heap.size w w4):=F4.out.trans ((But.of_below hb4).mono F4.out.size);clear hb4
   go_wp2
   go_ret2
   exact .inl ⟨_,k3,HM3,rfl,f2,E3,E4⟩
  have HR1:Hid (M=none):=by rw[HM2.out,f1];rfl
  have F4:Hid (But p w.heap.size w w3):=G5.out.trans (f4.mono G5.out.size);clear f1 f4 HM2;simp only[Nv]
  go_wp2
  go_ret2
  exact .inr ⟨HR1,q,rfl,F4⟩
 | none =>
  have G3':Hid (Ad t k2=Ad t i):=by rw[G3.out,hT];rfl
  have HM2:Hid (M=match P.tk 40 (Ad t k2)with
   |some r=>brk f r
   |none=>P.markT (Ad t k2)):=by rw[HM.out,hT,G3'.out];rfl
  clear hT HM G3;go_wp2_with fail;refine(Kp p t k2 40 _ G4 g2 ht (by decide) (by decide)).mono ?_;rintro e w3⟨k3,rfl,f1,f2,f3,f4,f5⟩;have F4:=iH f4;have F5:Hid (But p w.heap.size w w3):=G5.out.trans (f5.mono G5.out.size);have F3:=iH f3;clear f3 f4 f5
  cases hT:P.tk 40 (Ad t k2)with
  | some r' =>
   have F3':Hid (Ad t k3=r'):=by rw[F3.out,hT];rfl
   have hl2:Hid ((Ad t k3).length+1=(Ad t i).length):=by rw[F3'.out,<-G3'.out];exact P.tk_len hT
   have HM3:Hid (M=brk f (Ad t k3)):=by rw[HM2.out,hT,F3'.out];rfl
   clear hT HM2 F3 F3' G3';go_wp2_with fail;refine(xQ p t f HE'.out k3 _ F4 f2 ht (by have:=HF.out;have:=hl2.out;omega)).mono ?_;rintro e w4 (⟨z,k4,d1,rfl,d2,d3,d4⟩|⟨d1,q,rfl,d4⟩)
   .have H:Hid (Rds p t M w (.returned (.tuple #[val z,.nilIface])) w4):=.inl ⟨z,k4,HM3.out.trans d1,rfl,d2,d3,F5.out.trans (d4.mono F5.out.size)⟩
    clear d1 d3 d4
    go_wp2
    go_ret2
    exact H.out
   have H:Hid (Rds p t M w (.returned (.tuple #[.nilIface,Nv q])) w4):=.inr ⟨HM3.out.trans d1,q,rfl,F5.out.trans (d4.mono F5.out.size)⟩;clear d1 d4
   go_wp2
   go_ret2
   exact H.out
  | none =>
   have HM3:Hid (M=P.markT (Ad t k3)):=by rw[HM2.out,hT,F3.out,hT];rfl
   clear hT HM2 F3 G3';go_wp2_with fail;refine(tG p t k3 _ F4 f2 ht).mono ?_;rintro e w4 (⟨z,k4,d1,rfl,d2,d3,d4⟩|⟨d1,q,rfl,d4⟩)
   .have H:Hid (Rds p t M w (.returned (.tuple #[val z,.nilIface])) w4):=.inl ⟨z,k4,HM3.out.trans d1,rfl,d2,d3,F5.out.trans (d4.mono F5.out.size)⟩
    clear d1 d3 d4
    go_wp2
    go_ret2
    exact H.out
   have H:Hid (Rds p t M w (.returned (.tuple #[.nilIface,Nv q])) w4):=.inr ⟨HM3.out.trans d1,q,rfl,F5.out.trans (d4.mono F5.out.size)⟩;clear d1 d4
   go_wp2
   go_ret2
   exact H.out
theorem Rs(F:FuncId)(m c p:Nat)(t:BA)(hc:1<=c):Jq F m c p t 0:=by
 intro i w _ _ hf;omega
theorem tA(p:Nat)(t:BA)(ht:t.size<=200):∀f g,g<=f->Jq 208 0 1 p t g/\Jq 202 1 2 p t g/\Jq 193 2 3 p t g
 |0,g,hg=>by
  have:g=0:=by omega
  subst this;exact⟨Rs _ _ _ _ _ (by omega),Rs _ _ _ _ _ (by omega),Rs _ _ _ _ _ (by omega)⟩
 |f+1,g,hg=>by
  have ih:=tA p t ht f;by_cases h:g<=f
  .exact ih g h
  have:g=f+1:=by omega
  subst this;exact⟨jE p t f (ih f nL).1 (ih f nL).2.2 ht,tX p t f (λg hg=>(ih g hg).1) ht,kW p t f (λg hg=>(ih g hg).2.1) ht⟩
def Ap(t:BA):Nat :=
 if 200<t.size then 1
 else if Ad t 0=[]then 0
 else match P.rd 1000 2 P.nonT (Ad t 0)with
  |some (y,[])=>if 20<P.tall y then 3 else 0
  |_=>2
def Dl(t:BA):P.Tr :=
 if Ad t 0=[]then P.nonT
 else match P.rd 1000 2 P.nonT (Ad t 0)with
  |some (y,_)=>y
  |none=>P.nonT
def BJ(t:BA)(w:World)(e:Ending)(w':World):Prop :=
 ((Ap t=0/\e=.returned (.tuple #[val (Dl t),.nilIface]))\/(Ap t≠0/\∃q,e=.returned (.tuple #[.nilIface,.iface 252 (.agg #[X (Ap t:Nat),X q])])))/\bW w w'
theorem mQ{t:BA}{k:Nat}(hk:k<t.size)(hs:lI t k):Ad t k≠[]:=by
 obtain⟨l,r,e⟩:=Sx hk (hs hk);rw[e];exact λh=>by cases h
theorem eC(t:BA)(w:World)(hm:t.size<=maxLen) :
  Calls prog 176 #[Y t] w λe w'=>BJ t w e w':=by
 unfold maxLen at hm;by_cases hbig:(200:Int)<t.size
 .have HC:Hid (Ap t=1):=by show _=_;unfold Ap;rw[if_pos (by omega)]
  go_enter func176,ntmps176
  go_wp2
  go_ret2
  exact⟨.inr ⟨by rw[HC.out];omega,200,by rw[HC.out];rfl⟩,Below.refl _ _⟩
 have ht:t.size<=200:=by omega
 have HC:Hid (Ap t=if Ad t 0=[]then 0 else match P.rd 1000 2 P.nonT (Ad t 0)with
  |some (y,[])=>if 20<P.tall y then 3 else 0
  |_=>2):=by show _=_;unfold Ap;rw[if_neg (by omega)]
 have HT:Hid (Dl t=if Ad t 0=[]then P.nonT else match P.rd 1000 2 P.nonT (Ad t 0)with
  |some (y,_)=>y
  |none=>P.nonT):=rfl
 go_enter func176,ntmps176;go_wp2_with fail;have W0:Hid (RdAt (w.alloc (Obj.cells #[Y t,X 0] 255)) w.heap.size t 0):=⟨by simp,by simp,by simp⟩;have B0:=iH ((Below.refl _ w).alloc nL (Obj.cells #[Y t,X 0] 255));generalize w.alloc (Obj.cells #[Y t,X 0] 255)=w0 at *;refine(Nf w.heap.size t 0 _ W0 (zL) ht).mono ?_;rintro e w1⟨k,rfl,_,k2,k3,k4,k5,k6⟩;have H3:=iH k3;have H4:=iH k4;have H5:=iH k5;have B1:=iH (B0.out.trans (k6.below B0.out.size nL));clear k3 k4 k5 k6 B0 W0;by_cases hk:k=t.size
 .rw[decide_eq_true hk]
  have he:Ad t 0=[]:=by rw[<-H3.out,Ic (by omega)]
  have HC0:Hid (Ap t=0):=by rw[HC.out,if_pos he];rfl
  have HT0:Hid (Dl t=P.nonT):=by rw[HT.out,if_pos he];rfl
  clear he hk
  go_wp2
  go_ret2
  exact⟨.inl ⟨HC0,by rw[HT0.out];rfl⟩,B1⟩
 rw[decide_eq_false hk];have he:¬Ad t 0=[]:=by rw[<-H3.out];exact mQ (by omega) H4
 have HC1:Hid (Ap t=match P.rd 1000 2 P.nonT (Ad t k)with
  |some (y,[])=>if 20<P.tall y then 3 else 0
  |_=>2):=by rw[HC.out,if_neg he,H3.out];rfl
 have HT1:Hid (Dl t=match P.rd 1000 2 P.nonT (Ad t k)with
  |some (y,_)=>y
  |none=>P.nonT):=by rw[HT.out,if_neg he,H3.out];rfl
 clear he hk HC HT;go_wp2_with fail;refine((tA w.heap.size t ht 1000 1000 nL).2.2 k _ H5 k2 (by have:=Hx (i:=k) ht;omega)).mono ?_;rintro e w2 (⟨y,k3,f1,rfl,f2,f3,f4⟩|⟨f1,q,rfl,f4⟩)
 .obtain⟨b1,b2,b3,b4,b5,b6⟩:=P.rd_rd 1000 2 P.nonT _ _ _ (λh=>by omega) f1
  have HT2:Hid (Dl t=y):=by rw[HT1.out,f1];rfl
  have HC2:Hid (Ap t=match Ad t k3 with
   |[]=>if 20<P.tall y then 3 else 0
   |_=>2):=by rw[HC1.out,f1];cases Ad t k3<;>rfl
  have F3:=iH f3;have B2:=iH (B1.out.trans (f4.below B1.out.size nL));have HW:=iH b3;clear f1 f3 f4 HT1 HC1 b1 b2 b3 b4 b5 b6;go_wp2_with fail;refine(Nf w.heap.size t k3 _ F3 f2 ht).mono ?_;rintro e w3⟨k4,rfl,_,d2,d3,d4,d5,d6⟩;have D3:=iH d3;have D4:=iH d4;have D5:=iH d5;have B3:=iH (B2.out.trans (d6.below B2.out.size nL));clear d3 d4 d5 d6 B2 F3;by_cases hk:k4=t.size
  .rw[decide_eq_true hk]
   have he:Ad t k3=[]:=by rw[<-D3.out,Ic (by omega)]
   have HC3:Hid (Ap t=if 20<P.tall y then 3 else 0):=by rw[HC2.out,he];rfl
   clear he hk HC2 D3 D4 D5;obtain⟨ty,v,hv⟩:=Dc HW;have HV:=iH hv;rw[hv];clear hv;go_wp2_with(refine Dx rfl (.tmp 32) _ #[] #[] rfl _ rfl #[] (Pc _) _ (Nq ⟨λ_=>by kernel_rfl,λ_ _=>by kernel_rfl,λ_ _ _=>by kernel_rfl,λ_ _ _=>by kernel_rfl,λ_ _ _ _=>by kernel_rfl,λ_ _ _ _=>by kernel_rfl⟩ HW HV _) ?_;rintro u w4 ⟨rfl,hb4⟩)
   .have hgt:20<P.tall y:=by omega
    have HC4:Hid (Ap t=3):=by rw[HC3.out,if_pos hgt];rfl
    go_ret2
    exact⟨.inr ⟨by rw[HC4.out];omega,_,by rw[HC4.out];rfl⟩,B3.out.trans (hb4.mono B3.out.size)⟩
   have hgt:¬20<P.tall y:=by omega
   have HC4:Hid (Ap t=0):=by rw[HC3.out,if_neg hgt];rfl
   go_ret2
   exact⟨.inl ⟨HC4,by rw[HT2.out,HV.out];rfl⟩,B3.out.trans (hb4.mono B3.out.size)⟩
  rw[decide_eq_false hk];have he:Ad t k3≠[]:=by rw[<-D3.out];exact mQ (by omega) D4
  have HC3:Hid (Ap t=2):=by
   rw[HC2.out]
   cases h:Ad t k3 with
   |nil=>exact absurd h he
   |cons a l=>rfl
  clear he hk HC2 D3 D4;go_wp2_with fail;refine(Kb w.heap.size t k4 _ D5).mono ?_;rintro e w4⟨rfl,hb4⟩;have B4:=iH (B3.out.trans (hb4.below B3.out.size nL));clear hb4
  go_wp2
  go_ret2
  exact⟨.inr ⟨by rw[HC3.out];omega,_,by rw[HC3.out];rfl⟩,B4⟩
 have HC2:Hid (Ap t=2):=by rw[HC1.out,f1];rfl
 have B2:=iH (B1.out.trans (f4.below B1.out.size nL));clear f1 f4 HT1 HC1;simp only[Nv]
 go_wp2
 go_ret2
 exact⟨.inr ⟨by rw[HC2.out];omega,q,by rw[HC2.out];rfl⟩,B2⟩
theorem Ob(t:BA)(w:World)(hm:t.size<=maxLen) :
  Calls prog 157 #[Y t] w (Rt (.bool (decide (Ap t=0))) w):=by
 go_enter func157,ntmps157;go_wp2_with fail;refine(eC t _ hm).mono ?_;rintro e w1 ⟨⟨h1,rfl⟩|⟨h1,q,rfl⟩,hb⟩
 .have HC:Hid (decide (Ap t=0)=true):=decide_eq_true h1
  clear h1
  go_wp2
  go_ret;exact⟨Ab HC.out.symm,hb⟩
 have HC:Hid (decide (Ap t=0)=false):=decide_eq_false h1;clear h1
 go_wp2
 go_ret;exact⟨Ab HC.out.symm,hb⟩
structure Lik where
 select:BA
 weight:Int
def Dm(x:Lik):Nat:=x.select.size
def LikC:Eh Lik:=λ_ _ f x=>f 0=some (Y x.select)/\f 1=some (X x.weight)/\x.select.size<=maxLen
abbrev sK:=SliceC LikC 2
theorem LikC.holds:Eu LikC 2:=by
 rintro lo lo' w w' f g x h _ _⟨q0,q1,z0⟩;exact⟨(h 0 (by omega)).trans q0,(h 1 (by omega)).trans q1,z0⟩
theorem oD(x:Lik)(L:Int)(w:World)(z0:x.select.size<=maxLen)(h0:0<=L)(h1:L<=1048576) :
  Calls prog 117 #[.agg #[Y x.select,X x.weight],X L] w (Rt (X (szR (Dm x) L)) w):=by
 unfold maxLen at z0;have HW:Hid (Dm x=x.select.size):=rfl;generalize Dm x=W at *;by_cases d0:L-(x.select.size:Nat)<0
 .go_enter func117,ntmps117
  go_wp2
  go_ret;exact⟨Al (by have:=HW.out;unfold szR;rw[if_neg (by omega)]),by go_grown⟩
 .skip
  go_enter func117,ntmps117
  go_wp2
  go_ret;exact⟨Al (by have:=HW.out;unfold szR;rw[if_pos (by omega)];omega),by go_grown⟩
theorem Ni:(prog.info? 129).map (·.size)=some 2:=by kernel_rfl
theorem rI:Po 129 2:=⟨_,underlying129,rfl,Ni⟩
theorem oB(x:Lik)(w:World) :
  Calls prog 124 #[.agg #[Y x.select,X x.weight]] w (Rt (.agg #[Y x.select,X x.weight]) w):=by
 go_enter func124,ntmps124
 go_wp2
 go_returns
 exact⟨rfl,by go_grown⟩
theorem pQ(x:Lik)(w:World) :
  Calls prog 147 #[.agg #[Y x.select,X x.weight],.agg #[Y x.select,X x.weight]] w (Rt (.bool true) w):=by
 go_enter func147,ntmps147
 go_wp2
 go_ret;exact⟨rfl,by go_grown⟩
theorem jC(xs:List Lik)(a:OA)(cap lo:Nat)(L:Int)(w:World)(hin:sK lo w a xs)(h0:0<=L)(h1:L<=1048576) :
  Calls prog 78 #[.slice a xs.length cap,X L] w (Rt (X (szR (wS Dm xs) L)) w):=by
 have hlen:=hin.1;unfold maxLen at hlen;have HI:=iH hin;clear hin;have HW:Hid (wS Dm xs=xs.length+(xs.map Dm).sum):=rfl;generalize wS Dm xs=W at *;by_cases c1:L-xs.length<0
 .go_enter func78,ntmps78
  go_wp2
  go_ret;exact⟨Al (by have:=HW.out;unfold szR;rw[if_neg (by omega)]),Below.refl _ _⟩
 go_enter func78,ntmps78
 go_wp2
 go_loopw [1,5] (λl i wr=>∃(k:Nat)(M:Int),k<=xs.length/\i=X k/\l=X M/\0<=M/\M<=1048576/\Hid (M=L-xs.length-((xs.take k).map Dm).sum)/\bW w wr) (λ_ i _=>xs.length-(intOf i).toNat)
 case atStart=>exact⟨0,_,zL,rfl,rfl,by omega,by omega,by show _=_;simp,Below.refl _ _⟩
 obtain⟨k,M,hk,rfl,rfl,hM0,hM1,hM,hbel⟩:=hrel;by_cases hlt:k<xs.length
 .obtain⟨x,hx⟩:=gXe hlt
  obtain⟨b,o,rfl,_,_,hc⟩:=(HI.out.below LikC.holds hbel nL).at hx;obtain⟨q0,q1,z0⟩:=hc;simp only[Nat.add_zero]at q0 q1;have HX:Hid (((xs.take (k+1)).map Dm).sum=((xs.take k).map Dm).sum+Dm x):=Eg _ _ _ _ hx;have HY:Hid (((xs.take (k+1)).map Dm).sum<=(xs.map Dm).sum):=Df _ _ _;have CT:=oD x M wr z0 hM0 hM1;have HCT:=iH CT;clear hx CT;by_cases hr:(Dm x:Int)<=M
  .rw[Ha hr]at HCT
   generalize hV:Dm x=V at *;clear hV;go_wp2_with fail;refine HCT.out.mono ?_;rintro e w1⟨rfl,hb1⟩;clear HCT
   go_wp2
   go_roundw
   case rel =>
    refine⟨k+1,M-V,by omega,by go_num,rfl,by omega,by omega,?_,qTr hbel hb1⟩;have:=hM.out;have:=HX.out;show _=_
    omega
   simp[intOf];omega
  rw[Gz hr]at HCT;generalize hV:Dm x=V at *;clear hV;go_wp2_with fail;refine HCT.out.mono ?_;rintro e w1⟨rfl,hb1⟩;clear HCT
  go_wp2
  go_ret;refine⟨Al ?_,qTr hbel hb1⟩;have:=HW.out;have:=HX.out;have:=HY.out;have:=hM.out;unfold szR;rw[if_neg (by omega)]
 go_wp2
 go_ret;refine⟨Al ?_,hbel⟩;have hke:k=xs.length:=by omega
 subst hke;have h3:=hM.out;have h4:=HW.out;simp only[List.take_length]at h3;unfold szR;rw[if_pos (by omega)];omega
theorem Xl:(prog.info? 129).map (λi=>(i.zero,i.size,i.bytes))=some (some (.agg #[Y ⟨#[]⟩,X 0]),2,24):=by kernel_rfl
theorem kN(xs:List Lik)(a:OA)(cap lo:Nat)(w:World)(hin:sK lo w a xs)(hsm:wS Dm xs<=1048576) :
  Calls prog 87 #[.slice a xs.length cap] w λe w'=>∃g,e=.returned (sP g 0 xs.length xs.length)/\w.heap.size<=g/\sK w.heap.size w' (O g 0) xs/\bW w w':=by
 obtain⟨i0,hi,hz0,hz1,hz2⟩:=info_parts Xl;have hlen:xs.length<=1048576:=lT Ep hsm;have HI:=iH hin;have HSM:=iH hsm;clear hin hsm;go_enter func87,ntmps87;go_wp2_with(at_make;refine wpList_make_full _ rfl _ _ 52 rfl w.heap.size 129 i0 _ 2 underlying52 hi hz0 hz1 .i64 .i64 _ _ xs.length rfl rfl rfl rfl (by rw[hz2];omega) (by unfold maxLen;omega) nL ?_;intro w1 hown hgrow);have hb1:bW w w1:=(Below.refl _ _).grown hgrow nL (λk h=>by cases h);have hsz1:=(hown.lt w.heap.size rfl).2;generalize hX:(madeCells _ (xs.length*2)).toList=xs0 at hown;clear hX hgrow hi hz0 hz1 hz2;go_loopw [4] (λi wr=>∃(k:Nat)(cs:List Value),k<=xs.length/\i=X k/\w.heap.size<wr.heap.size/\wr.ownsRow w.heap.size 129 2 (sP w.heap.size 0 xs.length xs.length) xs.length cs/\RowC LikC 2 (w.heap.size+1) wr cs xs k/\bW w wr) (λi _=>xs.length-(intOf i).toNat)
 case atStart=>exact⟨0,xs0,zL,rfl,hsz1,hown,λj n h=>by omega,hb1⟩
 clear hown hb1 hsz1;obtain⟨k,cs,hk,rfl,hszr,hown,hfil,hbel⟩:=hrel;by_cases hlt:k<xs.length
 .obtain⟨x,hx⟩:=gXe hlt
  obtain⟨b,o,rfl,_,_,hc⟩:=(HI.out.below LikC.holds hbel nL).at hx;obtain⟨q0,q1,z0⟩:=hc;simp only[Nat.add_zero]at q0 q1;have HN:=iH hx;have hwx:Dm x<=1048576:=lT (Ml (List.mem_of_getElem? hx)) HSM;have HO:=iH hown;have HF:=iH hfil;have HS:=iH hszr;have CT:=oB x wr;have HCT:=iH CT;clear hx hown hfil CT hszr;go_wp2_with fail;refine HCT.out.mono ?_;rintro e w2⟨rfl,hb2⟩;clear HCT q0 q1;have ho2:=Ak HO hb2;have HB2:=iH (qTr hbel hb2);have HF2:Hid (RowC LikC 2 (w.heap.size+1) w2 cs xs k):=HF.out.keep LikC.holds (Keeps.of_below hb2 nL _);have hs2:Hid (w.heap.size<w2.heap.size):=lL HS hb2.size;have HR:Hid (LikC (w.heap.size+1) w2 (λi=>([Y x.select,X x.weight]:List Value)[i]?) x):=⟨rfl,rfl,z0⟩;have hxl:cs.length=xs.length*2:=ho2.1;have HT:Hid (w2.there w.heap.size (k*2) 2):=Dg ho2 (by omega);have HL:=iH hxl;have HO2:=iH ho2;clear hxl ho2 HO hb2 hwx;obtain⟨w3,hw3⟩:∃w',w'=w2.setCells w.heap.size (k*2) [Y x.select,X x.weight]:=⟨_,rfl⟩;have HW3:=iH hw3;have HS3:Hid (w.heap.size<w3.heap.size):=by rw[hw3,Be];exact hs2
  have HO3:Hid (w3.ownsRow w.heap.size 129 2 (sP w.heap.size 0 xs.length xs.length) xs.length (Cv cs (k*2) [Y x.select,X x.weight])):=by rw[hw3];exact Dr _ _ _ _ HO2
  have HB3:Hid (bW w w3):=by rw[hw3];exact Ae nL _ _ _ HB2
  have HR3:Hid (RowC LikC 2 (w.heap.size+1) w3 (Cv cs (k*2) [Y x.select,X x.weight]) xs (k+1)):=by
   rw[hw3];exact(HF2.out.step (vs:=[Y x.select,X x.weight]) LikC.holds HN rfl (by have:=HL.out;omega) HR).keep LikC.holds (Keeps.setCells (by omega) _ _ _)
  clear hw3 HB2 HF2 hs2 HR HL HO2;go_wp2_with(refine Ai rfl 129 _ _ rfl w.heap.size (k*2) #[Y x.select,X x.weight] (by first|rfl|(simp[go_sem];done)) rfl HT Ni (by simp[Value.oneCell']) w3 HW3 ?_);go_roundw
  case rel=>exact⟨k+1,_,by omega,by go_num,HS3,HO3,HR3,HB3⟩
  simp[intOf];omega
 have HO:=iH hown;have HF:=iH hfil;clear hown hfil
 go_wp2
 go_ret;have hke:k=xs.length:=by omega
 subst hke;exact⟨_,rfl,Nat.le_refl _,Fg HO HF LikC.holds HI.out.1 (by omega) nL,hbel⟩
theorem jJ(xs:List Lik)(a a':OA)(cap cap' lo lo':Nat)(w:World)(hg:sK lo w a xs)(hh:sK lo' w a' xs)(hsm:wS Dm xs<=1048576) :
  Calls prog 116 #[.slice a xs.length cap,.slice a' xs.length cap'] w (Rt (.bool true) w):=by
 have hlen:xs.length<=1048576:=lT Ep hsm;have HG:=iH hg;have HH:=iH hh;clear hg hh hsm;go_enter func116,ntmps116
 go_wp2
 go_loopw [5] (λi wr=>∃(k:Nat),k<=xs.length/\i=X k/\bW w wr) (λi _=>xs.length-(intOf i).toNat)
 case atStart=>exact⟨0,zL,rfl,Below.refl _ _⟩
 obtain⟨k,hk,rfl,hbel⟩:=hrel;by_cases hlt:k<xs.length
 .obtain⟨x,hx⟩:=gXe hlt
  obtain⟨b,o,rfl,_,_,hc⟩:=(HG.out.below LikC.holds hbel nL).at hx;obtain⟨b',o',rfl,_,_,hc'⟩:=(HH.out.below LikC.holds hbel nL).at hx;obtain⟨q0,q1,_⟩:=hc;obtain⟨r0,r1,_⟩:=hc';simp only[Nat.add_zero]at q0 q1 r0 r1;have k0:=cell_regrown q0;have l0:=cell_regrown r0;have k1:=cell_regrown q1;have l1:=cell_regrown r1;have cE:∀d os,Calls prog 147 #[.agg #[Y x.select,X x.weight],.agg #[Y x.select,X x.weight]] (Sort.grow (redrawn wr d) os) λe w''=>e=.returned (.bool true)/\∃p:Regrown,w''=Sort.grow (redrawn wr p.d) p.os:=λd os=>Calls.regrown_of (pQ x _)
  have i0:(0:Int)<=(k:Int):=by omega
  have i1:(k:Int)<(xs.length:Int):=by omega
  clear hx q0 q1 r0 r1;go_wp2_with fail;refine wp_region_quiet_below (by kernel_rfl) (by kernel_rfl) ?_
  repeat(quiet_step (first|exact cE _ _))
  refine wpQuiet_nil ?_;intro _ hw';obtain⟨⟨dq,osq⟩,hw''⟩:=hw';have hB:=hbel.trans ((below_regrown wr dq osq).mono hbel.size);simp only[]at hw'';rw[<-hw'']at hB;clear hw'' cE k0 l0 k1 l1
  go_wp2
  go_roundw
  case rel=>exact⟨k+1,by omega,by go_num,hB⟩
  simp[intOf];omega
 go_wp2
 go_ret;exact⟨rfl,hbel⟩
end Go.Proofs.YthboopnmbglkjaaGreat
