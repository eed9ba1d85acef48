import Derived.ProofKit
import Derived.OpenShut
import Derived.Deep.Slices
import Derived.Test.YtkiloaiffopllaaGreatMte
namespace Go.Proofs.YtkiloaiffopllaaGreat
open Go.RowKit
theorem Vy {α:Type} {p:Nat→α→Prop}:∀ (len:Nat),(∀ i,i<len→∃ x,p i x)→∃ l:List α,l.length=len∧∀ i x,l[i]?=some x→p i x
 | 0,_=>⟨[],rfl,fun i x h=>by simp at h⟩
 | n+1,h=>by
  obtain ⟨l,hl,hp⟩:=Vy n (fun i hi=>h i (by omega));obtain ⟨x,hx⟩:=h n (by omega);refine ⟨l++[x],by simp [hl],fun i y hy=>?_⟩;by_cases hi:i<l.length
  ·rw [List.getElem?_append_left hi] at hy
   exact hp i y hy
  ·have hie:i=l.length:=by have:=Ah hy;simp at this;omega
   subst hie;simp at hy;subst hy;rw [hl];exact hx
section
variable {H:Type} {enc:TypeId×Value→H} {w:World} {base:Nat} {spare:Nat→Bool} {held:Bool}
theorem Kp {α:Type} {C:Fv α} {n:Nat} {a:Addr} {len:Nat} (hC:Gc C n) (hn:0<n) (hl:len≤maxLen)
  (h:∀ i,i<len→∃ x,∃ cs:List Value,cs.length=n∧(∀ j,j<n→w.cell? ((a.add (i*n)).add j)=cs[j]?)∧C 0 w (fun j=>cs[j]?) x):∃ xs,xs.length=len∧SliceC C n 0 w (some a) xs:=by
 obtain ⟨xs,hx,hp⟩:=Vy len h;refine ⟨xs,hx,by omega,?_⟩;by_cases h0:len=0
 ·left
  exact List.length_eq_zero_iff.1 (by omega)
 ·right
  obtain ⟨b,o,spot⟩:=a;obtain ⟨x0,hx0⟩:∃ x,xs[0]?=some x:=⟨xs[0],gE (by omega)⟩;obtain ⟨cs,hcl,hcell,_⟩:=hp 0 x0 hx0;have hc0:=hcell 0 hn;rw [gE (by omega)] at hc0;have hspot:spot=none:=by simpa [Addr.add] using World.cell?_spot hc0
  subst hspot;have key:∀ x y,((⟨b,o,none⟩:Addr).add x).add y=⟨b,o+x+y,none⟩:=fun x y=>by cases x <;> cases y <;> simp [Addr.add]
  refine ⟨b,o,rfl,⟨zL,fun h=>absurd h (Nat.lt_irrefl 0)⟩,?_,fun j x hj=>?_⟩
  ·rw [key] at hc0
   exact block_lt_of_cell hc0
  ·obtain ⟨cs',_,hcell',hC'⟩:=hp j x hj
   exact hC 0 0 w w _ _ x (fun i hi=>by rw [← hcell' i hi,key]) (Keeps.refl _ _) nL hC'
theorem Bf {P:Program} {n:Nat} {cs:List Value} {fs:Array Field} {xs:List (DataW H×List MemPlace)} (hlen:xs.length=fs.size)
  (hf:∀ (i:Nat) (f:Field),fs[i]?=some f→DataW.trod enc P w base spare held n f.type ((cs.drop f.offset).take (P.cellsOf f.type))=xs[i]?) (i:Nat) (f:Field) (hi:fs[i]?=some f) :
  ∃ y,DataW.trod enc P w base spare held n f.type ((cs.drop f.offset).take (P.cellsOf f.type))=some y:=by
 have hlt:i<xs.length:=by
  rcases Nat.lt_or_ge i fs.size with h | h
  ·omega
  ·rw [Array.getElem?_eq_none h] at hi;cases hi
 exact ⟨xs[i],(hf i f hi).trans (gE hlt)⟩
theorem Pp:Tryz.prog.cellsOf 3=1:=by kernel_rfl
theorem Ub:Tryz.prog.cellsOf 9=1:=by kernel_rfl
theorem Uo:Tryz.prog.cellsOf 74=7:=by kernel_rfl
theorem bS:Tryz.prog.cellsOf 77=11:=by kernel_rfl
theorem dD {cs:List Value} (h:cs.length=7):∃ c0 c1 c2 c3 c4 c5 c6,cs=[c0,c1,c2,c3,c4,c5,c6]:=by
 match cs,h with
 | [c0,c1,c2,c3,c4,c5,c6],_=>exact ⟨_,_,_,_,_,_,_,rfl⟩
theorem bV {cs:List Value} (h:cs.length=11):∃ c0 c1 c2 c3 c4 c5 c6 c7 c8 c9 c10,cs=[c0,c1,c2,c3,c4,c5,c6,c7,c8,c9,c10]:=by
 match cs,h with
 | [c0,c1,c2,c3,c4,c5,c6,c7,c8,c9,c10],_=>exact ⟨_,_,_,_,_,_,_,_,_,_,_,rfl⟩
theorem bU {P:Program} {t:TypeId} {f0 f1 f2 f3 f4:Field} {fuel:Nat} {cs:List Value} {x:DataW H×List MemPlace} (ht:P.underlying t=some (.struct #[f0,f1,f2,f3,f4])) (h:DataW.trod enc P w base spare held fuel t cs=some x) :
  cs.length=P.cellsOf t∧∃ n,(∃ y,DataW.trod enc P w base spare held n f0.type ((cs.drop f0.offset).take (P.cellsOf f0.type))=some y)∧(∃ y,DataW.trod enc P w base spare held n f1.type ((cs.drop f1.offset).take (P.cellsOf f1.type))=some y)∧(∃ y,DataW.trod enc P w base spare held n f2.type ((cs.drop f2.offset).take (P.cellsOf f2.type))=some y)∧(∃ y,DataW.trod enc P w base spare held n f3.type ((cs.drop f3.offset).take (P.cellsOf f3.type))=some y)∧(∃ y,DataW.trod enc P w base spare held n f4.type ((cs.drop f4.offset).take (P.cellsOf f4.type))=some y):=by
 obtain ⟨xs,n,_,_,hl,hlen,hf⟩:=DataW.trod_struct ht h;exact ⟨hl,n,Bf hlen hf 0 f0 rfl,Bf hlen hf 1 f1 rfl,Bf hlen hf 2 f2 rfl,Bf hlen hf 3 f3 rfl,Bf hlen hf 4 f4 rfl⟩
theorem cO {P:Program} {t:TypeId} {f0 f1 f2 f3 f4 f5 f6:Field} {fuel:Nat} {cs:List Value} {x:DataW H×List MemPlace} (ht:P.underlying t=some (.struct #[f0,f1,f2,f3,f4,f5,f6])) (h:DataW.trod enc P w base spare held fuel t cs=some x) :
  cs.length=P.cellsOf t∧∃ n,(∃ y,DataW.trod enc P w base spare held n f0.type ((cs.drop f0.offset).take (P.cellsOf f0.type))=some y)∧(∃ y,DataW.trod enc P w base spare held n f1.type ((cs.drop f1.offset).take (P.cellsOf f1.type))=some y)∧(∃ y,DataW.trod enc P w base spare held n f2.type ((cs.drop f2.offset).take (P.cellsOf f2.type))=some y)∧(∃ y,DataW.trod enc P w base spare held n f3.type ((cs.drop f3.offset).take (P.cellsOf f3.type))=some y)∧(∃ y,DataW.trod enc P w base spare held n f4.type ((cs.drop f4.offset).take (P.cellsOf f4.type))=some y)∧(∃ y,DataW.trod enc P w base spare held n f5.type ((cs.drop f5.offset).take (P.cellsOf f5.type))=some y)∧(∃ y,DataW.trod enc P w base spare held n f6.type ((cs.drop f6.offset).take (P.cellsOf f6.type))=some y):=by
 obtain ⟨xs,n,_,_,hl,hlen,hf⟩:=DataW.trod_struct ht h;exact ⟨hl,n,Bf hlen hf 0 f0 rfl,Bf hlen hf 1 f1 rfl,Bf hlen hf 2 f2 rfl,Bf hlen hf 3 f3 rfl,Bf hlen hf 4 f4 rfl,Bf hlen hf 5 f5 rfl,Bf hlen hf 6 f6 rfl⟩
theorem Sj {fuel:Nat} {cs:List Value} {y:DataW H×List MemPlace} (h:DataW.trod enc Tryz.prog w base spare held fuel 74 cs=some y):cs.length=7∧∃ x:Wnt,WntC 0 w (fun j=>cs[j]?) x:=by
 obtain ⟨hl,n,HP⟩:=cO Tryz.underlying74 h;rw [Uo] at hl;refine ⟨hl,?_⟩;obtain ⟨c0,c1,c2,c3,c4,c5,c6,rfl⟩:=dD hl;obtain ⟨⟨_,h0⟩,⟨_,h1⟩,⟨_,h2⟩,⟨_,h3⟩,⟨_,h4⟩,⟨_,h5⟩,⟨_,h6⟩⟩:=HP;simp only [Pp,Ub] at h0 h1 h2 h3 h4 h5 h6;obtain ⟨v0,e0,_,s0⟩:=DataW.trod_string Tryz.underlying9 h0;obtain ⟨v1,e1,_,_⟩:=DataW.trod_int Tryz.underlying3 h1;obtain ⟨v2,e2,_,s2⟩:=DataW.trod_string Tryz.underlying9 h2;obtain ⟨v3,e3,_,_⟩:=DataW.trod_int Tryz.underlying3 h3;obtain ⟨v4,e4,_,_⟩:=DataW.trod_int Tryz.underlying3 h4;obtain ⟨v5,e5,_,_⟩:=DataW.trod_int Tryz.underlying3 h5;obtain ⟨v6,e6,_,_⟩:=DataW.trod_int Tryz.underlying3 h6;simp at e0 e1 e2 e3 e4 e5 e6;subst e0 e1 e2 e3 e4 e5 e6;exact ⟨⟨v0,v1,v2,v3,v4,v5,v6⟩,rfl,rfl,rfl,rfl,rfl,rfl,rfl,s0,s2⟩
theorem aO {fuel:Nat} {cs:List Value} {y:DataW H×List MemPlace} (h:DataW.trod enc Tryz.prog w base spare held fuel 77 cs=some y):cs.length=11∧∃ x:Rn,RnC 0 w (fun j=>cs[j]?) x:=by
 obtain ⟨hl,n,HP⟩:=bU Tryz.underlying77 h;rw [bS] at hl;refine ⟨hl,?_⟩;obtain ⟨c0,c1,c2,c3,c4,c5,c6,c7,c8,c9,c10,rfl⟩:=bV hl;obtain ⟨⟨_,h0⟩,⟨_,h1⟩,⟨_,h2⟩,⟨_,h3⟩,⟨_,h4⟩⟩:=HP;simp only [Pp,Uo] at h0 h1 h2 h3 h4;obtain ⟨_,x,q0,q1,q2,q3,q4,q5,q6,s0,s2⟩:=Sj h0;obtain ⟨v1,e1,_,_⟩:=DataW.trod_int Tryz.underlying3 h1;obtain ⟨v2,e2,_,_⟩:=DataW.trod_int Tryz.underlying3 h2;obtain ⟨v3,e3,_,_⟩:=DataW.trod_int Tryz.underlying3 h3;obtain ⟨v4,e4,_,_⟩:=DataW.trod_int Tryz.underlying3 h4;simp at e1 e2 e3 e4 q0 q1 q2 q3 q4 q5 q6;subst e1 e2 e3 e4 q0 q1 q2 q3 q4 q5 q6;exact ⟨⟨x,v1,v2,v3,v4⟩,rfl,rfl,rfl,rfl,rfl,rfl,rfl,rfl,rfl,rfl,rfl,s0,s2⟩
theorem Xj {fuel:Nat} {cs:List Value} {y:DataW H×List MemPlace} (h:DataW.trod enc Tryz.prog w base spare held fuel 22 cs=some y):∃ a xs cap,cs=[.slice a xs.length cap]∧SliceC WntC 7 0 w a xs:=by
 rcases Go.Deep.open_slice Tryz.underlying22 h with ⟨hc,_⟩ | ⟨a,len,cap,m,n',D,Pl,hc,_,hl,hcm,hm,_,hall⟩
 ·exact ⟨none,[],0,hc,SliceC.nil⟩
 ·rw [Uo] at hall
  have hlm:len≤m:=by rw [hm];split <;> omega
  obtain ⟨xs,hx,hs⟩:=Kp (C:=WntC) (n:=7) (a:=a) (len:=len) WntC.holds (by omega) (by omega) (fun i hi=>by
   obtain ⟨cs',h1,h2⟩:=hall i (by omega);obtain ⟨_,hl',hcell⟩:=World.cells?_some h1;obtain ⟨_,x,hx⟩:=Sj h2
   exact ⟨x,cs',hl',hcell,hx⟩)
  subst hx;exact ⟨some a,xs,cap,hc,hs⟩
theorem Ya {fuel:Nat} {cs:List Value} {y:DataW H×List MemPlace} (h:DataW.trod enc Tryz.prog w base spare held fuel 23 cs=some y):∃ a xs cap,cs=[.slice a xs.length cap]∧SliceC RnC 11 0 w a xs:=by
 rcases Go.Deep.open_slice Tryz.underlying23 h with ⟨hc,_⟩ | ⟨a,len,cap,m,n',D,Pl,hc,_,hl,hcm,hm,_,hall⟩
 ·exact ⟨none,[],0,hc,SliceC.nil⟩
 ·rw [bS] at hall
  have hlm:len≤m:=by rw [hm];split <;> omega
  obtain ⟨xs,hx,hs⟩:=Kp (C:=RnC) (n:=11) (a:=a) (len:=len) RnC.holds (by omega) (by omega) (fun i hi=>by
   obtain ⟨cs',h1,h2⟩:=hall i (by omega);obtain ⟨_,hl',hcell⟩:=World.cells?_some h1;obtain ⟨_,x,hx⟩:=aO h2
   exact ⟨x,cs',hl',hcell,hx⟩)
  subst hx;exact ⟨some a,xs,cap,hc,hs⟩
end
section
variable {H:Type} {enc:TypeId×Value→H} {w:World} {base:Nat} {spare:Nat→Bool} {held:Bool}
theorem bA:Tryz.prog.cellsOf 4=1:=by kernel_rfl
theorem bE:Tryz.prog.cellsOf 22=1:=by kernel_rfl
theorem bW:Tryz.prog.cellsOf 23=1:=by kernel_rfl
theorem bB:Tryz.prog.cellsOf 24=1:=by kernel_rfl
theorem Za:Tryz.prog.cellsOf 79=4:=by kernel_rfl
theorem cC:Tryz.prog.cellsOf 26=9:=by kernel_rfl
theorem dA {cs:List Value} (h:cs.length=4):∃ c0 c1 c2 c3,cs=[c0,c1,c2,c3]:=by
 match cs,h with
 | [c0,c1,c2,c3],_=>exact ⟨_,_,_,_,rfl⟩
theorem bN {cs:List Value} (h:cs.length=9):∃ c0 c1 c2 c3 c4 c5 c6 c7 c8,cs=[c0,c1,c2,c3,c4,c5,c6,c7,c8]:=by
 match cs,h with
 | [c0,c1,c2,c3,c4,c5,c6,c7,c8],_=>exact ⟨_,_,_,_,_,_,_,_,_,rfl⟩
theorem cH {P:Program} {t:TypeId} {f0 f1 f2 f3:Field} {fuel:Nat} {cs:List Value} {x:DataW H×List MemPlace} (ht:P.underlying t=some (.struct #[f0,f1,f2,f3])) (h:DataW.trod enc P w base spare held fuel t cs=some x) :
  cs.length=P.cellsOf t∧∃ n,(∃ y,DataW.trod enc P w base spare held n f0.type ((cs.drop f0.offset).take (P.cellsOf f0.type))=some y)∧(∃ y,DataW.trod enc P w base spare held n f1.type ((cs.drop f1.offset).take (P.cellsOf f1.type))=some y)∧(∃ y,DataW.trod enc P w base spare held n f2.type ((cs.drop f2.offset).take (P.cellsOf f2.type))=some y)∧(∃ y,DataW.trod enc P w base spare held n f3.type ((cs.drop f3.offset).take (P.cellsOf f3.type))=some y):=by
 obtain ⟨xs,n,_,_,hl,hlen,hf⟩:=DataW.trod_struct ht h;exact ⟨hl,n,Bf hlen hf 0 f0 rfl,Bf hlen hf 1 f1 rfl,Bf hlen hf 2 f2 rfl,Bf hlen hf 3 f3 rfl⟩
theorem cM {P:Program} {t:TypeId} {f0 f1 f2 f3 f4 f5 f6 f7 f8:Field} {fuel:Nat} {cs:List Value} {x:DataW H×List MemPlace} (ht:P.underlying t=some (.struct #[f0,f1,f2,f3,f4,f5,f6,f7,f8])) (h:DataW.trod enc P w base spare held fuel t cs=some x) :
  cs.length=P.cellsOf t∧∃ n,(∃ y,DataW.trod enc P w base spare held n f0.type ((cs.drop f0.offset).take (P.cellsOf f0.type))=some y)∧(∃ y,DataW.trod enc P w base spare held n f1.type ((cs.drop f1.offset).take (P.cellsOf f1.type))=some y)∧(∃ y,DataW.trod enc P w base spare held n f2.type ((cs.drop f2.offset).take (P.cellsOf f2.type))=some y)∧(∃ y,DataW.trod enc P w base spare held n f3.type ((cs.drop f3.offset).take (P.cellsOf f3.type))=some y)∧(∃ y,DataW.trod enc P w base spare held n f4.type ((cs.drop f4.offset).take (P.cellsOf f4.type))=some y)∧(∃ y,DataW.trod enc P w base spare held n f5.type ((cs.drop f5.offset).take (P.cellsOf f5.type))=some y)∧(∃ y,DataW.trod enc P w base spare held n f6.type ((cs.drop f6.offset).take (P.cellsOf f6.type))=some y)∧(∃ y,DataW.trod enc P w base spare held n f7.type ((cs.drop f7.offset).take (P.cellsOf f7.type))=some y)∧(∃ y,DataW.trod enc P w base spare held n f8.type ((cs.drop f8.offset).take (P.cellsOf f8.type))=some y):=by
 obtain ⟨xs,n,_,_,hl,hlen,hf⟩:=DataW.trod_struct ht h;exact ⟨hl,n,Bf hlen hf 0 f0 rfl,Bf hlen hf 1 f1 rfl,Bf hlen hf 2 f2 rfl,Bf hlen hf 3 f3 rfl,Bf hlen hf 4 f4 rfl,Bf hlen hf 5 f5 rfl,Bf hlen hf 6 f6 rfl,Bf hlen hf 7 f7 rfl,Bf hlen hf 8 f8 rfl⟩
theorem Zr {fuel:Nat} {cs:List Value} {y:DataW H×List MemPlace} (h:DataW.trod enc Tryz.prog w base spare held fuel 79 cs=some y):cs.length=4∧∃ x:Aks,AksC 0 w (fun j=>cs[j]?) x:=by
 obtain ⟨hl,n,HP⟩:=cH Tryz.underlying79 h;rw [Za] at hl;refine ⟨hl,?_⟩;obtain ⟨c0,c1,c2,c3,rfl⟩:=dA hl;obtain ⟨⟨_,h0⟩,⟨_,h1⟩,⟨_,h2⟩,⟨_,h3⟩⟩:=HP;simp only [Pp,Ub] at h0 h1 h2 h3;obtain ⟨v0,e0,_,s0⟩:=DataW.trod_string Tryz.underlying9 h0;obtain ⟨v1,e1,_,s1⟩:=DataW.trod_string Tryz.underlying9 h1;obtain ⟨v2,e2,_,_⟩:=DataW.trod_int Tryz.underlying3 h2;obtain ⟨v3,e3,_,_⟩:=DataW.trod_int Tryz.underlying3 h3;simp at e0 e1 e2 e3;subst e0 e1 e2 e3;exact ⟨⟨v0,v1,v2,v3⟩,rfl,rfl,rfl,rfl,s0,s1⟩
theorem Ox {fuel:Nat} {cs:List Value} {y:DataW H×List MemPlace} (h:DataW.trod enc Tryz.prog w base spare held fuel 24 cs=some y):∃ a xs cap,cs=[.slice a xs.length cap]∧SliceC AksC 4 0 w a xs:=by
 rcases Go.Deep.open_slice Tryz.underlying24 h with ⟨hc,_⟩ | ⟨a,len,cap,m,n',D,Pl,hc,_,hl,hcm,hm,_,hall⟩
 ·exact ⟨none,[],0,hc,SliceC.nil⟩
 ·rw [Za] at hall
  have hlm:len≤m:=by rw [hm];split <;> omega
  obtain ⟨xs,hx,hs⟩:=Kp (C:=AksC) (n:=4) (a:=a) (len:=len) AksC.holds (by omega) (by omega) (fun i hi=>by
   obtain ⟨cs',h1,h2⟩:=hall i (by omega);obtain ⟨_,hl',hcell⟩:=World.cells?_some h1;obtain ⟨_,x,hx⟩:=Zr h2
   exact ⟨x,cs',hl',hcell,hx⟩)
  subst hx;exact ⟨some a,xs,cap,hc,hs⟩
theorem aE {fuel:Nat} {cs:List Value} {y:DataW H×List MemPlace} (h:DataW.trod enc Tryz.prog w base spare held fuel 26 cs=some y):cs.length=9∧∃ x:Mte,MteC 0 w (fun j=>cs[j]?) x:=by
 obtain ⟨hl,n,HP⟩:=cM Tryz.underlying26 h;rw [cC] at hl;refine ⟨hl,?_⟩;obtain ⟨c0,c1,c2,c3,c4,c5,c6,c7,c8,rfl⟩:=bN hl;obtain ⟨⟨_,h0⟩,⟨_,h1⟩,⟨_,h2⟩,⟨_,h3⟩,⟨_,h4⟩,⟨_,h5⟩,⟨_,h6⟩,⟨_,h7⟩,⟨_,h8⟩⟩:=HP;simp only [bA,Pp,Ub,bE,bW,bB] at h0 h1 h2 h3 h4 h5 h6 h7 h8;obtain ⟨v0,e0,_,s0⟩:=DataW.trod_string Tryz.underlying9 h0;obtain ⟨v1,e1,_⟩:=DataW.trod_bool Tryz.underlying4 h1;obtain ⟨v2,e2,_,_⟩:=DataW.trod_int Tryz.underlying3 h2;obtain ⟨v3,e3,_⟩:=DataW.trod_bool Tryz.underlying4 h3;obtain ⟨v4,e4,_,_⟩:=DataW.trod_int Tryz.underlying3 h4;obtain ⟨a5,v5,p5,e5,s5⟩:=Xj h5;obtain ⟨a6,v6,p6,e6,s6⟩:=Ya h6;obtain ⟨a7,v7,p7,e7,s7⟩:=Ox h7;obtain ⟨a8,v8,p8,e8,s8⟩:=Ox h8;simp at e0 e1 e2 e3 e4 e5 e6 e7 e8;subst e0 e1 e2 e3 e4 e5 e6 e7 e8;exact ⟨⟨v0,v1,v2,v3,v4,v5,v6,v7,v8⟩,a5,p5,a6,p6,a7,p7,a8,p8,rfl,rfl,rfl,rfl,rfl,rfl,rfl,rfl,rfl,s0,s5,s6,s7,s8⟩
theorem aH {cs:Array Value} {x:Mte} (hl:cs.toList.length=9) (h:MteC 0 w (fun j=>cs.toList[j]?) x) :
  ∃ (a5:OA) (c5:Nat) (a6:OA) (c6:Nat) (a7:OA) (c7:Nat) (a8:OA) (c8:Nat),cs=(mmA x a5 c5 a6 c6 a7 c7 a8 c8)∧x.name.size≤maxLen∧SliceC WntC 7 0 w a5 x.wants∧SliceC RnC 11 0 w a6 x.runs∧SliceC AksC 4 0 w a7 x.asks∧SliceC AksC 4 0 w a8 x.gives:=by
 obtain ⟨a5,c5,a6,c6,a7,c7,a8,c8,q0,q1,q2,q3,q4,q5,q6,q7,q8,s0,s5,s6,s7,s8⟩:=h;refine ⟨a5,c5,a6,c6,a7,c7,a8,c8,?_,s0,s5,s6,s7,s8⟩;obtain ⟨l⟩:=cs;obtain ⟨d0,d1,d2,d3,d4,d5,d6,d7,d8,rfl⟩:=bN hl;simp at q0 q1 q2 q3 q4 q5 q6 q7 q8;subst q0 q1 q2 q3 q4 q5 q6 q7 q8;rfl
end
end Go.Proofs.YtkiloaiffopllaaGreat
