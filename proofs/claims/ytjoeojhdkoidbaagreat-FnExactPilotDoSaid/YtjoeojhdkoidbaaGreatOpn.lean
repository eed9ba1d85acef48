import Derived.Test.YtjoeojhdkoidbaaGreatFlt
import Derived.ProofKit
import Derived.OpenShut
import Derived.Deep.Slices
namespace Go.Proofs.YtjoeojhdkoidbaaGreat
open Go.RowKit Tryz
theorem iJ {α:Type} {p:Nat→α→Prop}:∀ (len:Nat),(∀ i,i<len→∃ x,p i x)→∃ l:List α,l.length=len∧∀ i x,l[i]?=some x→p i x
 | 0,_=>⟨[],rfl,fun i x h=>by simp at h⟩
 | n+1,h=>by
  obtain ⟨l,hl,hp⟩:=iJ n (fun i hi=>h i (by omega));obtain ⟨x,hx⟩:=h n (by omega);refine ⟨l++[x],by simp [hl],fun i y hy=>?_⟩;by_cases hi:i<l.length
  ·rw [List.getElem?_append_left hi] at hy
   exact hp i y hy
  ·have hie:i=l.length:=by have:=Ah hy;simp at this;omega
   subst hie;simp at hy;subst hy;rw [hl];exact hx
section
variable {H:Type} {enc:TypeId×Value→H} {w:World} {base:Nat} {spare:Nat→Bool} {held:Bool}
theorem Jc {α:Type} {C:Ej α} {n:Nat} {a:Addr} {len:Nat} (hC:Er C n) (hn:0<n) (hl:len≤maxLen)
  (h:∀ i,i<len→∃ x,∃ cs:List Value,cs.length=n∧(∀ j,j<n→w.cell? ((a.add (i*n)).add j)=cs[j]?)∧C 0 w (fun j=>cs[j]?) x):∃ xs,xs.length=len∧SliceC C n 0 w (some a) xs:=by
 obtain ⟨xs,hx,hp⟩:=iJ len h;refine ⟨xs,hx,by omega,?_⟩;by_cases h0:len=0
 ·left
  exact List.length_eq_zero_iff.1 (by omega)
 ·right
  obtain ⟨b,o,spot⟩:=a;obtain ⟨x0,hx0⟩:∃ x,xs[0]?=some x:=⟨xs[0],gE (by omega)⟩;obtain ⟨cs,hcl,hcell,_⟩:=hp 0 x0 hx0;have hc0:=hcell 0 hn;rw [gE (by omega)] at hc0;have hspot:spot=none:=by simpa [Addr.add] using World.cell?_spot hc0
  subst hspot;have key:∀ x y,((⟨b,o,none⟩:Addr).add x).add y=⟨b,o+x+y,none⟩:=fun x y=>by cases x <;> cases y <;> simp [Addr.add]
  refine ⟨b,o,rfl,⟨zL,fun h=>absurd h (Nat.lt_irrefl 0)⟩,?_,fun j x hj=>?_⟩
  ·rw [key] at hc0
   exact block_lt_of_cell hc0
  ·obtain ⟨cs',_,hcell',hC'⟩:=hp j x hj
   exact hC 0 0 w w _ _ x (fun i hi=>by rw [← hcell' i hi,key]) (Keeps.refl _ _) nL hC'
theorem Bk {P:Program} {n:Nat} {cs:List Value} {fs:Array Field} {xs:List (DataW H×List MemPlace)} (hlen:xs.length=fs.size)
  (hf:∀ (i:Nat) (f:Field),fs[i]?=some f→DataW.trod enc P w base spare held n f.type ((cs.drop f.offset).take (P.cellsOf f.type))=xs[i]?) (i:Nat) (f:Field) (hi:fs[i]?=some f) :
  ∃ y,DataW.trod enc P w base spare held n f.type ((cs.drop f.offset).take (P.cellsOf f.type))=some y:=by
 have hlt:i<xs.length:=by
  rcases Nat.lt_or_ge i fs.size with h | h
  ·omega
  ·rw [Array.getElem?_eq_none h] at hi;cases hi
 exact ⟨xs[i],(hf i f hi).trans (gE hlt)⟩
theorem Yl:prog.cellsOf 3=1:=by kernel_rfl
theorem Qo:prog.cellsOf 9=1:=by kernel_rfl
theorem jF:prog.cellsOf 4=1:=by kernel_rfl
theorem gU:prog.cellsOf 27=1:=by kernel_rfl
theorem rB:prog.cellsOf 100=1:=by kernel_rfl
theorem mW:prog.cellsOf 177=2:=by kernel_rfl
theorem rU:prog.cellsOf 23=1:=by kernel_rfl
theorem nE:prog.cellsOf 98=2:=by kernel_rfl
theorem qL:prog.cellsOf 22=1:=by kernel_rfl
theorem oU:prog.cellsOf 95=6:=by kernel_rfl
theorem rA:prog.cellsOf 24=1:=by kernel_rfl
theorem nB:prog.cellsOf 102=12:=by kernel_rfl
theorem tA:prog.cellsOf 26=4:=by kernel_rfl
theorem sM {cs:List Value} (h:cs.length=2):∃ c0 c1,cs=[c0,c1]:=by
 match cs,h with
 | [c0,c1],_=>exact ⟨_,_,rfl⟩
theorem sK {cs:List Value} (h:cs.length=4):∃ c0 c1 c2 c3,cs=[c0,c1,c2,c3]:=by
 match cs,h with
 | [c0,c1,c2,c3],_=>exact ⟨_,_,_,_,rfl⟩
theorem uM {cs:List Value} (h:cs.length=6):∃ c0 c1 c2 c3 c4 c5,cs=[c0,c1,c2,c3,c4,c5]:=by
 match cs,h with
 | [c0,c1,c2,c3,c4,c5],_=>exact ⟨_,_,_,_,_,_,rfl⟩
theorem sZ {cs:List Value} (h:cs.length=12):∃ c0 c1 c2 c3 c4 c5 c6 c7 c8 c9 c10 c11,cs=[c0,c1,c2,c3,c4,c5,c6,c7,c8,c9,c10,c11]:=by
 match cs,h with
 | [c0,c1,c2,c3,c4,c5,c6,c7,c8,c9,c10,c11],_=>exact ⟨_,_,_,_,_,_,_,_,_,_,_,_,rfl⟩
theorem pI {P:Program} {t:TypeId} {f0 f1:Field} {fuel:Nat} {cs:List Value} {x:DataW H×List MemPlace} (ht:P.underlying t=some (.struct #[f0,f1])) (h:DataW.trod enc P w base spare held fuel t cs=some x) :
  cs.length=P.cellsOf t∧∃ n,(∃ y,DataW.trod enc P w base spare held n f0.type ((cs.drop f0.offset).take (P.cellsOf f0.type))=some y)∧(∃ y,DataW.trod enc P w base spare held n f1.type ((cs.drop f1.offset).take (P.cellsOf f1.type))=some y):=by
 obtain ⟨xs,n,_,_,hl,hlen,hf⟩:=DataW.trod_struct ht h;exact ⟨hl,n,Bk hlen hf 0 f0 rfl,Bk hlen hf 1 f1 rfl⟩
theorem tJ {P:Program} {t:TypeId} {f0 f1 f2 f3:Field} {fuel:Nat} {cs:List Value} {x:DataW H×List MemPlace} (ht:P.underlying t=some (.struct #[f0,f1,f2,f3])) (h:DataW.trod enc P w base spare held fuel t cs=some x) :
  cs.length=P.cellsOf t∧∃ n,(∃ y,DataW.trod enc P w base spare held n f0.type ((cs.drop f0.offset).take (P.cellsOf f0.type))=some y)∧(∃ y,DataW.trod enc P w base spare held n f1.type ((cs.drop f1.offset).take (P.cellsOf f1.type))=some y)∧(∃ y,DataW.trod enc P w base spare held n f2.type ((cs.drop f2.offset).take (P.cellsOf f2.type))=some y)∧(∃ y,DataW.trod enc P w base spare held n f3.type ((cs.drop f3.offset).take (P.cellsOf f3.type))=some y):=by
 obtain ⟨xs,n,_,_,hl,hlen,hf⟩:=DataW.trod_struct ht h;exact ⟨hl,n,Bk hlen hf 0 f0 rfl,Bk hlen hf 1 f1 rfl,Bk hlen hf 2 f2 rfl,Bk hlen hf 3 f3 rfl⟩
theorem uB {P:Program} {t:TypeId} {f0 f1 f2 f3 f4 f5:Field} {fuel:Nat} {cs:List Value} {x:DataW H×List MemPlace} (ht:P.underlying t=some (.struct #[f0,f1,f2,f3,f4,f5])) (h:DataW.trod enc P w base spare held fuel t cs=some x) :
  cs.length=P.cellsOf t∧∃ n,(∃ y,DataW.trod enc P w base spare held n f0.type ((cs.drop f0.offset).take (P.cellsOf f0.type))=some y)∧(∃ y,DataW.trod enc P w base spare held n f1.type ((cs.drop f1.offset).take (P.cellsOf f1.type))=some y)∧(∃ y,DataW.trod enc P w base spare held n f2.type ((cs.drop f2.offset).take (P.cellsOf f2.type))=some y)∧(∃ y,DataW.trod enc P w base spare held n f3.type ((cs.drop f3.offset).take (P.cellsOf f3.type))=some y)∧(∃ y,DataW.trod enc P w base spare held n f4.type ((cs.drop f4.offset).take (P.cellsOf f4.type))=some y)∧(∃ y,DataW.trod enc P w base spare held n f5.type ((cs.drop f5.offset).take (P.cellsOf f5.type))=some y):=by
 obtain ⟨xs,n,_,_,hl,hlen,hf⟩:=DataW.trod_struct ht h;exact ⟨hl,n,Bk hlen hf 0 f0 rfl,Bk hlen hf 1 f1 rfl,Bk hlen hf 2 f2 rfl,Bk hlen hf 3 f3 rfl,Bk hlen hf 4 f4 rfl,Bk hlen hf 5 f5 rfl⟩
theorem sC {P:Program} {t:TypeId} {f0 f1 f2 f3 f4 f5 f6 f7 f8 f9 f10 f11:Field} {fuel:Nat} {cs:List Value} {x:DataW H×List MemPlace} (ht:P.underlying t=some (.struct #[f0,f1,f2,f3,f4,f5,f6,f7,f8,f9,f10,f11])) (h:DataW.trod enc P w base spare held fuel t cs=some x) :
  cs.length=P.cellsOf t∧∃ n,(∃ y,DataW.trod enc P w base spare held n f0.type ((cs.drop f0.offset).take (P.cellsOf f0.type))=some y)∧(∃ y,DataW.trod enc P w base spare held n f1.type ((cs.drop f1.offset).take (P.cellsOf f1.type))=some y)∧(∃ y,DataW.trod enc P w base spare held n f2.type ((cs.drop f2.offset).take (P.cellsOf f2.type))=some y)∧(∃ y,DataW.trod enc P w base spare held n f3.type ((cs.drop f3.offset).take (P.cellsOf f3.type))=some y)∧(∃ y,DataW.trod enc P w base spare held n f4.type ((cs.drop f4.offset).take (P.cellsOf f4.type))=some y)∧(∃ y,DataW.trod enc P w base spare held n f5.type ((cs.drop f5.offset).take (P.cellsOf f5.type))=some y)∧(∃ y,DataW.trod enc P w base spare held n f6.type ((cs.drop f6.offset).take (P.cellsOf f6.type))=some y)∧(∃ y,DataW.trod enc P w base spare held n f7.type ((cs.drop f7.offset).take (P.cellsOf f7.type))=some y)∧(∃ y,DataW.trod enc P w base spare held n f8.type ((cs.drop f8.offset).take (P.cellsOf f8.type))=some y)∧(∃ y,DataW.trod enc P w base spare held n f9.type ((cs.drop f9.offset).take (P.cellsOf f9.type))=some y)∧(∃ y,DataW.trod enc P w base spare held n f10.type ((cs.drop f10.offset).take (P.cellsOf f10.type))=some y)∧(∃ y,DataW.trod enc P w base spare held n f11.type ((cs.drop f11.offset).take (P.cellsOf f11.type))=some y):=by
 obtain ⟨xs,n,_,_,hl,hlen,hf⟩:=DataW.trod_struct ht h;exact ⟨hl,n,Bk hlen hf 0 f0 rfl,Bk hlen hf 1 f1 rfl,Bk hlen hf 2 f2 rfl,Bk hlen hf 3 f3 rfl,Bk hlen hf 4 f4 rfl,Bk hlen hf 5 f5 rfl,Bk hlen hf 6 f6 rfl,Bk hlen hf 7 f7 rfl,Bk hlen hf 8 f8 rfl,Bk hlen hf 9 f9 rfl,Bk hlen hf 10 f10 rfl,Bk hlen hf 11 f11 rfl⟩
theorem Xj {fuel:Nat} {cs:List Value} {y:DataW H×List MemPlace} (h:DataW.trod enc prog w base spare held fuel 27 cs=some y):∃ a xs cap,cs=[.slice a xs.length cap]∧SliceC StrC 1 0 w a xs:=by
 rcases Go.Deep.open_slice underlying27 h with ⟨hc,_⟩ | ⟨a,len,cap,m,n',D,Pl,hc,_,hl,hcm,hm,_,hall⟩
 ·exact ⟨none,[],0,hc,SliceC.nil⟩
 ·rw [Qo] at hall
  have hlm:len≤m:=by rw [hm];split <;> omega
  obtain ⟨xs,hx,hs⟩:=Jc (C:=StrC) (n:=1) (a:=a) (len:=len) StrC.holds (by omega) (by omega) (fun i hi=>by
   obtain ⟨cs',h1,h2⟩:=hall i (by omega);obtain ⟨_,hl',hcell⟩:=World.cells?_some h1;obtain ⟨s,rfl,_,hs⟩:=DataW.trod_string underlying9 h2
   exact ⟨s,[.string s],rfl,hcell,rfl,hs⟩)
  subst hx;exact ⟨some a,xs,cap,hc,hs⟩
theorem nR {fuel:Nat} {cs:List Value} {y:DataW H×List MemPlace} (h:DataW.trod enc prog w base spare held fuel 177 cs=some y):cs.length=2∧∃ x:Lik,LikC 0 w (fun j=>cs[j]?) x:=by
 obtain ⟨hl,n,HP⟩:=pI underlying177 h;rw [mW] at hl;refine ⟨hl,?_⟩;obtain ⟨c0,c1,rfl⟩:=sM hl;obtain ⟨⟨_,h0⟩,⟨_,h1⟩⟩:=HP;simp only [Yl,Qo] at h0 h1;obtain ⟨v0,e0,_,s0⟩:=DataW.trod_string underlying9 h0;obtain ⟨v1,e1,_,_⟩:=DataW.trod_int underlying3 h1;simp at e0 e1;subst e0 e1;exact ⟨⟨v0,v1⟩,rfl,rfl,s0⟩
theorem kH {fuel:Nat} {cs:List Value} {y:DataW H×List MemPlace} (h:DataW.trod enc prog w base spare held fuel 100 cs=some y):∃ a xs cap,cs=[.slice a xs.length cap]∧SliceC LikC 2 0 w a xs:=by
 rcases Go.Deep.open_slice underlying100 h with ⟨hc,_⟩ | ⟨a,len,cap,m,n',D,Pl,hc,_,hl,hcm,hm,_,hall⟩
 ·exact ⟨none,[],0,hc,SliceC.nil⟩
 ·rw [mW] at hall
  have hlm:len≤m:=by rw [hm];split <;> omega
  obtain ⟨xs,hx,hs⟩:=Jc (C:=LikC) (n:=2) (a:=a) (len:=len) LikC.holds (by omega) (by omega) (fun i hi=>by
   obtain ⟨cs',h1,h2⟩:=hall i (by omega);obtain ⟨_,hl',hcell⟩:=World.cells?_some h1;obtain ⟨_,x,hx⟩:=nR h2
   exact ⟨x,cs',hl',hcell,hx⟩)
  subst hx;exact ⟨some a,xs,cap,hc,hs⟩
theorem nA {fuel:Nat} {cs:List Value} {y:DataW H×List MemPlace} (h:DataW.trod enc prog w base spare held fuel 98 cs=some y):cs.length=2∧∃ x:Svc,SvcC 0 w (fun j=>cs[j]?) x:=by
 obtain ⟨hl,n,HP⟩:=pI underlying98 h;rw [nE] at hl;refine ⟨hl,?_⟩;obtain ⟨c0,c1,rfl⟩:=sM hl;obtain ⟨⟨_,h0⟩,⟨_,h1⟩⟩:=HP;simp only [Yl,Qo] at h0 h1;obtain ⟨v0,e0,_,s0⟩:=DataW.trod_string underlying9 h0;obtain ⟨v1,e1,_,_⟩:=DataW.trod_int underlying3 h1;simp at e0 e1;subst e0 e1;exact ⟨⟨v0,v1⟩,rfl,rfl,s0⟩
theorem kE {fuel:Nat} {cs:List Value} {y:DataW H×List MemPlace} (h:DataW.trod enc prog w base spare held fuel 23 cs=some y):∃ a xs cap,cs=[.slice a xs.length cap]∧SliceC SvcC 2 0 w a xs:=by
 rcases Go.Deep.open_slice underlying23 h with ⟨hc,_⟩ | ⟨a,len,cap,m,n',D,Pl,hc,_,hl,hcm,hm,_,hall⟩
 ·exact ⟨none,[],0,hc,SliceC.nil⟩
 ·rw [nE] at hall
  have hlm:len≤m:=by rw [hm];split <;> omega
  obtain ⟨xs,hx,hs⟩:=Jc (C:=SvcC) (n:=2) (a:=a) (len:=len) SvcC.holds (by omega) (by omega) (fun i hi=>by
   obtain ⟨cs',h1,h2⟩:=hall i (by omega);obtain ⟨_,hl',hcell⟩:=World.cells?_some h1;obtain ⟨_,x,hx⟩:=nA h2
   exact ⟨x,cs',hl',hcell,hx⟩)
  subst hx;exact ⟨some a,xs,cap,hc,hs⟩
theorem oN {fuel:Nat} {cs:List Value} {y:DataW H×List MemPlace} (h:DataW.trod enc prog w base spare held fuel 95 cs=some y):cs.length=6∧∃ x:Brt,BrtC 0 w (fun j=>cs[j]?) x:=by
 obtain ⟨hl,n,HP⟩:=uB underlying95 h;rw [oU] at hl;refine ⟨hl,?_⟩;obtain ⟨c0,c1,c2,c3,c4,c5,rfl⟩:=uM hl;obtain ⟨⟨_,h0⟩,⟨_,h1⟩,⟨_,h2⟩,⟨_,h3⟩,⟨_,h4⟩,⟨_,h5⟩⟩:=HP;simp only [jF,Yl,gU,Qo] at h0 h1 h2 h3 h4 h5;obtain ⟨v0,e0,_,s0⟩:=DataW.trod_string underlying9 h0;obtain ⟨v1,e1,_,s1⟩:=DataW.trod_string underlying9 h1;obtain ⟨a2,v2,p2,e2,s2⟩:=Xj h2;obtain ⟨v3,e3,_,_⟩:=DataW.trod_int underlying3 h3;obtain ⟨v4,e4,_,_⟩:=DataW.trod_int underlying3 h4;obtain ⟨v5,e5,_⟩:=DataW.trod_bool underlying4 h5;simp at e0 e1 e2 e3 e4 e5;subst e0 e1 e2 e3 e4 e5;exact ⟨⟨v0,v1,v2,v3,v4,v5⟩,a2,p2,rfl,rfl,rfl,rfl,rfl,rfl,s0,s1,s2⟩
theorem mM {fuel:Nat} {cs:List Value} {y:DataW H×List MemPlace} (h:DataW.trod enc prog w base spare held fuel 22 cs=some y):∃ a xs cap,cs=[.slice a xs.length cap]∧SliceC BrtC 6 0 w a xs:=by
 rcases Go.Deep.open_slice underlying22 h with ⟨hc,_⟩ | ⟨a,len,cap,m,n',D,Pl,hc,_,hl,hcm,hm,_,hall⟩
 ·exact ⟨none,[],0,hc,SliceC.nil⟩
 ·rw [oU] at hall
  have hlm:len≤m:=by rw [hm];split <;> omega
  obtain ⟨xs,hx,hs⟩:=Jc (C:=BrtC) (n:=6) (a:=a) (len:=len) BrtC.holds (by omega) (by omega) (fun i hi=>by
   obtain ⟨cs',h1,h2⟩:=hall i (by omega);obtain ⟨_,hl',hcell⟩:=World.cells?_some h1;obtain ⟨_,x,hx⟩:=oN h2
   exact ⟨x,cs',hl',hcell,hx⟩)
  subst hx;exact ⟨some a,xs,cap,hc,hs⟩
theorem pV {fuel:Nat} {cs:List Value} {y:DataW H×List MemPlace} (h:DataW.trod enc prog w base spare held fuel 102 cs=some y):cs.length=12∧∃ x:Cpy,CpyC 0 w (fun j=>cs[j]?) x:=by
 obtain ⟨hl,n,HP⟩:=sC underlying102 h;rw [nB] at hl;refine ⟨hl,?_⟩;obtain ⟨c0,c1,c2,c3,c4,c5,c6,c7,c8,c9,c10,c11,rfl⟩:=sZ hl;obtain ⟨⟨_,h0⟩,⟨_,h1⟩,⟨_,h2⟩,⟨_,h3⟩,⟨_,h4⟩,⟨_,h5⟩,⟨_,h6⟩,⟨_,h7⟩,⟨_,h8⟩,⟨_,h9⟩,⟨_,h10⟩,⟨_,h11⟩⟩:=HP;simp only [Yl,rB,Qo] at h0 h1 h2 h3 h4 h5 h6 h7 h8 h9 h10 h11;obtain ⟨v0,e0,_,s0⟩:=DataW.trod_string underlying9 h0;obtain ⟨v1,e1,_,s1⟩:=DataW.trod_string underlying9 h1;obtain ⟨v2,e2,_,_⟩:=DataW.trod_int underlying3 h2;obtain ⟨v3,e3,_,_⟩:=DataW.trod_int underlying3 h3;obtain ⟨v4,e4,_,_⟩:=DataW.trod_int underlying3 h4;obtain ⟨v5,e5,_,_⟩:=DataW.trod_int underlying3 h5;obtain ⟨v6,e6,_,s6⟩:=DataW.trod_string underlying9 h6;obtain ⟨a7,v7,p7,e7,s7⟩:=kH h7;obtain ⟨v8,e8,_,_⟩:=DataW.trod_int underlying3 h8;obtain ⟨v9,e9,_,s9⟩:=DataW.trod_string underlying9 h9;obtain ⟨v10,e10,_,s10⟩:=DataW.trod_string underlying9 h10;obtain ⟨v11,e11,_,s11⟩:=DataW.trod_string underlying9 h11;simp at e0 e1 e2 e3 e4 e5 e6 e7 e8 e9 e10 e11;subst e0 e1 e2 e3 e4 e5 e6 e7 e8 e9 e10 e11;exact ⟨⟨v0,v1,v2,v3,v4,v5,v6,v7,v8,v9,v10,v11⟩,a7,p7,rfl,rfl,rfl,rfl,rfl,rfl,rfl,rfl,rfl,rfl,rfl,rfl,s0,s1,s6,s9,s10,s11,s7⟩
theorem kR {fuel:Nat} {cs:List Value} {y:DataW H×List MemPlace} (h:DataW.trod enc prog w base spare held fuel 24 cs=some y):∃ a xs cap,cs=[.slice a xs.length cap]∧SliceC CpyC 12 0 w a xs:=by
 rcases Go.Deep.open_slice underlying24 h with ⟨hc,_⟩ | ⟨a,len,cap,m,n',D,Pl,hc,_,hl,hcm,hm,_,hall⟩
 ·exact ⟨none,[],0,hc,SliceC.nil⟩
 ·rw [nB] at hall
  have hlm:len≤m:=by rw [hm];split <;> omega
  obtain ⟨xs,hx,hs⟩:=Jc (C:=CpyC) (n:=12) (a:=a) (len:=len) CpyC.holds (by omega) (by omega) (fun i hi=>by
   obtain ⟨cs',h1,h2⟩:=hall i (by omega);obtain ⟨_,hl',hcell⟩:=World.cells?_some h1;obtain ⟨_,x,hx⟩:=pV h2
   exact ⟨x,cs',hl',hcell,hx⟩)
  subst hx;exact ⟨some a,xs,cap,hc,hs⟩
theorem pW {fuel:Nat} {cs:List Value} {y:DataW H×List MemPlace} (h:DataW.trod enc prog w base spare held fuel 26 cs=some y):cs.length=4∧∃ x:Flt,FltC 0 w (fun j=>cs[j]?) x:=by
 obtain ⟨hl,n,HP⟩:=tJ underlying26 h;rw [tA] at hl;refine ⟨hl,?_⟩;obtain ⟨c0,c1,c2,c3,rfl⟩:=sK hl;obtain ⟨⟨_,h0⟩,⟨_,h1⟩,⟨_,h2⟩,⟨_,h3⟩⟩:=HP;simp only [jF,qL,rA,rU] at h0 h1 h2 h3;obtain ⟨v0,e0,_⟩:=DataW.trod_bool underlying4 h0;obtain ⟨a1,v1,p1,e1,s1⟩:=mM h1;obtain ⟨a2,v2,p2,e2,s2⟩:=kE h2;obtain ⟨a3,v3,p3,e3,s3⟩:=kR h3;simp at e0 e1 e2 e3;subst e0 e1 e2 e3;exact ⟨⟨v0,v1,v2,v3⟩,a1,p1,a2,p2,a3,p3,rfl,rfl,rfl,rfl,s1,s2,s3⟩
end
end Go.Proofs.YtjoeojhdkoidbaaGreat
