import Derived.Test.YthboopnmbglkjaaGreatJ15
import Derived.Test.YthboopnmbglkjaaGreatJ8
set_option maxHeartbeats 2000000
namespace Go.Proofs.YthboopnmbglkjaaGreat
open Go.RowKit Tryz
def post:P.Tr->List P.Nd
 |.nil=>[]
 |.node b _ p l r =>
  if b=0 then[⟨0,⟨#[]⟩,⟨#[]⟩,0⟩]
  else if b=1 then[⟨1,p.1,⟨#[]⟩,0⟩]
  else if b=2 then[⟨2,p.1,p.2,0⟩]
  else if b=3 then post l++[⟨3,⟨#[]⟩,⟨#[]⟩,1⟩]
  else if b=4 then post l++post r++[⟨4,⟨#[]⟩,⟨#[]⟩,2⟩]
  else post l++post r++[⟨5,⟨#[]⟩,⟨#[]⟩,2⟩]
theorem lR(n:BA):post (P.nmT n)=[⟨1,n,⟨#[]⟩,0⟩]:=rfl
theorem mK(n v:BA):post (P.vlT n v)=[⟨2,n,v,0⟩]:=rfl
theorem Pf(k:P.Tr):post (P.ntT k)=post k++[⟨3,⟨#[]⟩,⟨#[]⟩,1⟩]:=rfl
theorem Pk(a b:P.Tr):post (P.anT a b)=post a++post b++[⟨4,⟨#[]⟩,⟨#[]⟩,2⟩]:=rfl
theorem Qi(a b:P.Tr):post (P.orT a b)=post a++post b++[⟨5,⟨#[]⟩,⟨#[]⟩,2⟩]:=rfl
def CF(p g c:Nat)(L:List (List UInt8))(i:Nat)(r:Option (P.Tr×List (List UInt8)))(w:World)(e:Ending)(w':World):Prop :=
 ∃v ns k b,e=.returned v/\PsAt w' p g c L k b/\i<=k/\k<=L.length/\NdRow w' w.heap.size v ns/\But p w.heap.size w w' /\
  ((b=false/\ns.length+i<=k/\∃y,r=some (y,L.drop k)/\ns=post y)\/(b=true/\ns.length+i<=k+1/\r=none))
def Ok(F:FuncId)(m cc p g c:Nat)(L:List (List UInt8))(f:Nat):Prop :=
 ∀(i:Nat)(w:World),PsAt w p g c L i false->i<=L.length->4*(L.length-i)+cc<=f ->
  Calls prog F #[pP p 0] w λe w'=>CF p g c L i (P.rd f m P.nonT (L.drop i)) w e w'
def aL(n p:Nat)(w:World):Nat:=n-(match w.cell? (E p 1)with|some v=>(intOf v).toNat|none=>0)
theorem Nn{w:World}{p g c:Nat}{L:List (List UInt8)}{i:Nat}{b:Bool}(n:Nat)(h:PsAt w p g c L i b):aL n p w=n-i:=by
 unfold aL;rw[h.c1];simp[intOf]
theorem qP{w:World}{v:Value}{a:List P.Nd}{T:TypeId}(h:NdRow w 0 v a):PartsAt (w.alloc (.cells #[v] T)) w.heap.size [a]:=by
 intro j ns hj
 match j,hj with
 |0,hj =>
  simp at hj;subst hj;exact⟨v,by simp,h.below ((Below.refl w.heap.size w).alloc nL _) nL⟩
theorem Zz{w:World}{v u:Value}{a b:List P.Nd}{T:TypeId}(h:NdRow w 0 v a)(h':NdRow w 0 u b):PartsAt (w.alloc (.cells #[v,u] T)) w.heap.size [a,b]:=by
 intro j ns hj
 match j,hj with
 |0,hj =>
  simp at hj;subst hj;exact⟨v,by simp,h.below ((Below.refl w.heap.size w).alloc nL _) nL⟩
 |1,hj =>
  simp at hj;subst hj;exact⟨u,by simp,h'.below ((Below.refl w.heap.size w).alloc nL _) nL⟩
theorem zO(p g c:Nat)(L:List (List UInt8))(f:Nat)(H:∀q,q<=f->Ok 189 0 1 p g c L q)(hl:L.length<=200):Ok 168 1 2 p g c L (f+1):=by
 intro i w hp hi hf;have HP:=iH hp;have HH:Hid (∀q,q<=f->Ok 189 0 1 p g c L q):=H;have hpw:=hp.plt;clear hp H
 have HM:Hid (P.rd (f+1) 1 P.nonT (L.drop i)=match P.rd f 0 P.nonT (L.drop i)with
  |none=>none
  |some (y,r)=>P.rd f 3 y r):=rfl
 generalize P.rd (f+1) 1 P.nonT (L.drop i)=M at *;have HL200:=iH hl;generalize hN:L.length=N at *;have HN:=iH hN;clear hN;go_enter func168,ntmps168;go_wp2_with fail;refine(HH f nL i _ HP (by have:=HN.out;omega) (by have:=HN.out;omega)).mono ?_;rintro e w1⟨v,ns,k,b,rfl,h1,h2,h3,h4,h5,h6⟩;have S:Hid (∃q,(b=false/\ns.length+i<=k/\q<=f/\4*(N-k)+1<=q/\∃y,M=P.rd q 3 y (L.drop k)/\ns=post y)\/(b=true/\ns.length+i<=k+1/\M=none)):=by
  rcases h6 with⟨e1,e2,y,e3,e4⟩|⟨e1,e2,e3⟩
  .obtain⟨a1,a2,_,_,_,_⟩:=P.rd_rd f 0 P.nonT _ _ _ (λh=>by omega) e3
   have a2:=a2 (by omega);simp only[List.length_drop]at a2;have:=HN.out;exact⟨f,.inl ⟨e1,e2,Nat.le_refl _,by omega,y,by rw[HM.out,e3],e4⟩⟩
  exact⟨0,.inr ⟨e1,e2,by rw[HM.out,e3]⟩⟩
 have H1:=iH h1;have H4:=iH h4;have H5:=iH h5;rw[HN.out]at h3;clear h1 h4 h5 h6 HM
 go_wp2
 go_loopw [3] (λv wr=>∃ns k b,i<=k/\k<=N/\Hid (PsAt wr p g c L k b)/\Hid (NdRow wr w.heap.size v ns)/\Hid (But p w.heap.size w wr)/\Hid (∃q,(b=false/\ns.length+i<=k/\q<=f/\4*(N-k)+1<=q/\∃y,M=P.rd q 3 y (L.drop k)/\ns=post y)\/(b=true/\ns.length+i<=k+1/\M=none))) (λ_ wr=>aL N p wr)
 case atStart=>exact⟨ns,k,b,h2,h3,H1,H4,H5,S⟩
 clear H1 H4 H5 S h2 h3;obtain⟨ns,k,b,h2,h3,H1,H4,H5,S⟩:=hrel;obtain⟨v0,hv0⟩:∃v0,v0=u3:=⟨_,rfl⟩;subst hv0;obtain⟨ga,ca,hva,_,_,_⟩:=H4.out;subst hva
 cases b with
 | true =>
  have SR:Hid (ns.length+i<=k+1/\M=none):=by
   obtain⟨q,⟨e1,_⟩|⟨_,e2,e3⟩⟩:=S.out
   .cases e1
   exact⟨e2,e3⟩
  obtain⟨c0,c1,c2,f1,f2,_,_,_⟩:=H1.out
  go_wp2
  go_ret;exact⟨_,ns,k,true,rfl,H1,h2,by rw[HN.out];exact h3,H4,H5,.inr ⟨rfl,SR.out.1,SR.out.2⟩⟩
 | false =>
  obtain⟨q,hq⟩:∃q,ns.length+i<=k/\q<=f/\4*(N-k)+1<=q/\∃y,M=P.rd q 3 y (L.drop k)/\ns=post y:=by
   obtain⟨q,⟨_,e⟩|⟨e1,_⟩⟩:=S.out
   .exact⟨q,e⟩
   cases e1
  obtain⟨q1,q2,q3,y,q4,q5⟩:=hq;obtain⟨q',hq'⟩:∃q',q=q'+1:=⟨q-1,by omega⟩;subst hq'
  have HM3:Hid (M=match P.tk 38 (L.drop k)with
   |none=>some (y,L.drop k)
   |some r=>match P.rd q' 0 P.nonT r with
    |none=>none
    |some (z,r')=>P.rd q' 3 (P.anT y z) r'):=q4
  have HY:=iH q5;clear q4 q5 S;obtain⟨c0,c1,c2,f1,f2,_,_,_⟩:=H1.out;go_wp2_with fail;refine(Hw p g c L k false 38 _ H1 (by rw[HN.out];exact h3) (by rw[HN.out];exact HL200.out)).mono ?_;rintro e w2⟨k2,rfl,g1,g2,g3,g4,g5,g6,g7⟩;have G6:=iH g6;have G7:Hid (But p w.heap.size w w2):=H5.out.trans (g7.mono H5.out.size);have GR:Hid (NdRow w2 w.heap.size (sP ga 0 ns.length ca) ns):=H4.out.but g7 nL hpw;clear c0 c1 c2 f1 f2 g6 g7
  cases hT:P.tk 38 (L.drop k)with
  |none =>
   have hk2:k2=k:=g5 (by rw[hT];rfl);have HR1:Hid (M=some (y,L.drop k2)):=by rw[HM3.out,hT,hk2];rfl
   have hk2':Hid (k2=k):=hk2;clear hT HM3 g3 g4 g5 hk2
   go_wp2
   go_ret;exact⟨_,ns,k2,false,rfl,G6,by have:=hk2'.out;omega,g2,GR,G7,.inl ⟨rfl,by have:=hk2'.out;omega,y,HR1,HY⟩⟩
  | some r' =>
   have hk2:k2=k+1:=g4 (by rw[hT];rfl);have G3':Hid (L.drop k2=r'):=by rw[g3,hT];rfl
   have HM4:Hid (M=match P.rd q' 0 P.nonT (L.drop k2)with
    |none=>none
    |some (z,r')=>P.rd q' 3 (P.anT y z) r'):=by rw[HM3.out,hT];simp only[];rw[G3'.out];rfl
   have hk2':Hid (k2=k+1):=hk2;clear hT HM3 g3 g4 g5 hk2 G3';have G2:=iH g2;go_wp2_with fail;refine(HH q' (by omega) k2 _ G6 G2 (by have:=HN.out;have:=hk2'.out;omega)).mono ?_;rintro e w3⟨v2,ns2,k3,b3,rfl,f1,f2,f3,f4,f5,f6⟩;have f4':=f4;obtain⟨gb,cb,hvb,_,_,_⟩:=f4';subst hvb;have F1:=iH f1;have F5:Hid (But p w.heap.size w w3):=G7.out.trans (f5.mono G7.out.size);have R1:Hid (NdRow w3 0 (sP ga 0 ns.length ca) ns):=(GR.out.but f5 nL hpw).mono (zL);have R2:Hid (NdRow w3 0 (sP gb 0 ns2.length cb) ns2):=f4.mono (zL);have F6:=iH f6;have hb2:Hid (ns2.length+k2<=k3+1):=by
    show _<=_
    rcases f6 with⟨_,e,_⟩|⟨_,e,_⟩<;>omega
   have F3:=iH f3;clear f1 f3 f4 f5 f6 GR;go_wp2_with fail;refine(Uo 4 2 _ [ns,ns2] _ (Zz R1 R2) (by simp) (by have:=hb2.out;have:=F3.out;have:=hk2'.out;have:=HN.out;simp;omega)).mono ?_;rintro e w4⟨v4,rfl,o1,o2⟩;have hal:bW w3 w4:=((Below.refl w3.heap.size w3).alloc nL _).trans (o2.mono (by simp));have E1:Hid (PsAt w4 p g c L k3 b3):=F1.out.below hal;have E5:Hid (But p w.heap.size w w4):=F5.out.trans ((But.of_below hal).mono F5.out.size);have ER:Hid (NdRow w4 w.heap.size v4 (ns++ns2++[⟨4,⟨#[]⟩,⟨#[]⟩,2⟩])):=by
    have:=o1.mono (B':=w.heap.size) (by have:=F5.out.size;simp;omega);show NdRow _ _ _ _
    simpa using this
   clear o1 o2 hal R1 R2
   go_wp2
   go_roundw
   case rel =>
    have hkk:=hk2'.out;have hnn:=HN.out;refine⟨ns++ns2++[⟨4,⟨#[]⟩,⟨#[]⟩,2⟩],k3,b3,by omega,by have:=F3.out;omega,E1,ER,E5,?_⟩;rcases F6.out with⟨e1,e2,z,e3,e4⟩|⟨e1,e2,e3⟩
    .obtain⟨a1,a2,_,_,_,_⟩:=P.rd_rd q' 0 P.nonT _ _ _ (λh=>by omega) e3
     have a2:=a2 (by omega);simp only[List.length_drop]at a2;exact⟨q',.inl ⟨e1,by simp;omega,by omega,by omega,P.anT y z,by rw[HM4.out,e3],by rw[HY.out,e4,Pk]⟩⟩
    exact⟨0,.inr ⟨e1,by simp;omega,by rw[HM4.out,e3]⟩⟩
   rw[Nn N E1.out,Nn N H1.out];have:=hk2'.out;have:=F3.out;have:=HN.out;omega
theorem BX(p g c:Nat)(L:List (List UInt8))(f:Nat)(H:∀q,q<=f->Ok 168 1 2 p g c L q)(hl:L.length<=200):Ok 149 2 3 p g c L (f+1):=by
 intro i w hp hi hf;have HP:=iH hp;have HH:Hid (∀q,q<=f->Ok 168 1 2 p g c L q):=H;have hpw:=hp.plt;clear hp H
 have HM:Hid (P.rd (f+1) 2 P.nonT (L.drop i)=match P.rd f 1 P.nonT (L.drop i)with
  |none=>none
  |some (y,r)=>P.rd f 4 y r):=rfl
 generalize P.rd (f+1) 2 P.nonT (L.drop i)=M at *;have HL200:=iH hl;generalize hN:L.length=N at *;have HN:=iH hN;clear hN;go_enter func149,ntmps149;go_wp2_with fail;refine(HH f nL i _ HP (by have:=HN.out;omega) (by have:=HN.out;omega)).mono ?_;rintro e w1⟨v,ns,k,b,rfl,h1,h2,h3,h4,h5,h6⟩;have S:Hid (∃q,(b=false/\ns.length+i<=k/\q<=f/\4*(N-k)+1<=q/\∃y,M=P.rd q 4 y (L.drop k)/\ns=post y)\/(b=true/\ns.length+i<=k+1/\M=none)):=by
  rcases h6 with⟨e1,e2,y,e3,e4⟩|⟨e1,e2,e3⟩
  .obtain⟨a1,a2,_,_,_,_⟩:=P.rd_rd f 1 P.nonT _ _ _ (λh=>by omega) e3
   have a2:=a2 (by omega);simp only[List.length_drop]at a2;have:=HN.out;exact⟨f,.inl ⟨e1,e2,Nat.le_refl _,by omega,y,by rw[HM.out,e3],e4⟩⟩
  exact⟨0,.inr ⟨e1,e2,by rw[HM.out,e3]⟩⟩
 have H1:=iH h1;have H4:=iH h4;have H5:=iH h5;rw[HN.out]at h3;clear h1 h4 h5 h6 HM
 go_wp2
 go_loopw [3] (λv wr=>∃ns k b,i<=k/\k<=N/\Hid (PsAt wr p g c L k b)/\Hid (NdRow wr w.heap.size v ns)/\Hid (But p w.heap.size w wr)/\Hid (∃q,(b=false/\ns.length+i<=k/\q<=f/\4*(N-k)+1<=q/\∃y,M=P.rd q 4 y (L.drop k)/\ns=post y)\/(b=true/\ns.length+i<=k+1/\M=none))) (λ_ wr=>aL N p wr)
 case atStart=>exact⟨ns,k,b,h2,h3,H1,H4,H5,S⟩
 clear H1 H4 H5 S h2 h3;obtain⟨ns,k,b,h2,h3,H1,H4,H5,S⟩:=hrel;obtain⟨v0,hv0⟩:∃v0,v0=u3:=⟨_,rfl⟩;subst hv0;obtain⟨ga,ca,hva,_,_,_⟩:=H4.out;subst hva
 cases b with
 | true =>
  have SR:Hid (ns.length+i<=k+1/\M=none):=by
   obtain⟨q,⟨e1,_⟩|⟨_,e2,e3⟩⟩:=S.out
   .cases e1
   exact⟨e2,e3⟩
  obtain⟨c0,c1,c2,f1,f2,_,_,_⟩:=H1.out
  go_wp2
  go_ret;exact⟨_,ns,k,true,rfl,H1,h2,by rw[HN.out];exact h3,H4,H5,.inr ⟨rfl,SR.out.1,SR.out.2⟩⟩
 | false =>
  obtain⟨q,hq⟩:∃q,ns.length+i<=k/\q<=f/\4*(N-k)+1<=q/\∃y,M=P.rd q 4 y (L.drop k)/\ns=post y:=by
   obtain⟨q,⟨_,e⟩|⟨e1,_⟩⟩:=S.out
   .exact⟨q,e⟩
   cases e1
  obtain⟨q1,q2,q3,y,q4,q5⟩:=hq;obtain⟨q',hq'⟩:∃q',q=q'+1:=⟨q-1,by omega⟩;subst hq'
  have HM3:Hid (M=match P.tk 124 (L.drop k)with
   |none=>some (y,L.drop k)
   |some r=>match P.rd q' 1 P.nonT r with
    |none=>none
    |some (z,r')=>P.rd q' 4 (P.orT y z) r'):=q4
  have HY:=iH q5;clear q4 q5 S;obtain⟨c0,c1,c2,f1,f2,_,_,_⟩:=H1.out;go_wp2_with fail;refine(Hw p g c L k false 124 _ H1 (by rw[HN.out];exact h3) (by rw[HN.out];exact HL200.out)).mono ?_;rintro e w2⟨k2,rfl,g1,g2,g3,g4,g5,g6,g7⟩;have G6:=iH g6;have G7:Hid (But p w.heap.size w w2):=H5.out.trans (g7.mono H5.out.size);have GR:Hid (NdRow w2 w.heap.size (sP ga 0 ns.length ca) ns):=H4.out.but g7 nL hpw;clear c0 c1 c2 f1 f2 g6 g7
  cases hT:P.tk 124 (L.drop k)with
  |none =>
   have hk2:k2=k:=g5 (by rw[hT];rfl);have HR1:Hid (M=some (y,L.drop k2)):=by rw[HM3.out,hT,hk2];rfl
   have hk2':Hid (k2=k):=hk2;clear hT HM3 g3 g4 g5 hk2
   go_wp2
   go_ret;exact⟨_,ns,k2,false,rfl,G6,by have:=hk2'.out;omega,g2,GR,G7,.inl ⟨rfl,by have:=hk2'.out;omega,y,HR1,HY⟩⟩
  | some r' =>
   have hk2:k2=k+1:=g4 (by rw[hT];rfl);have G3':Hid (L.drop k2=r'):=by rw[g3,hT];rfl
   have HM4:Hid (M=match P.rd q' 1 P.nonT (L.drop k2)with
    |none=>none
    |some (z,r')=>P.rd q' 4 (P.orT y z) r'):=by rw[HM3.out,hT];simp only[];rw[G3'.out];rfl
   have hk2':Hid (k2=k+1):=hk2;clear hT HM3 g3 g4 g5 hk2 G3';have G2:=iH g2;go_wp2_with fail;refine(HH q' (by omega) k2 _ G6 G2 (by have:=HN.out;have:=hk2'.out;omega)).mono ?_;rintro e w3⟨v2,ns2,k3,b3,rfl,f1,f2,f3,f4,f5,f6⟩;have f4':=f4;obtain⟨gb,cb,hvb,_,_,_⟩:=f4';subst hvb;have F1:=iH f1;have F5:Hid (But p w.heap.size w w3):=G7.out.trans (f5.mono G7.out.size);have R1:Hid (NdRow w3 0 (sP ga 0 ns.length ca) ns):=(GR.out.but f5 nL hpw).mono (zL);have R2:Hid (NdRow w3 0 (sP gb 0 ns2.length cb) ns2):=f4.mono (zL);have F6:=iH f6;have hb2:Hid (ns2.length+k2<=k3+1):=by
    show _<=_
    rcases f6 with⟨_,e,_⟩|⟨_,e,_⟩<;>omega
   have F3:=iH f3;clear f1 f3 f4 f5 f6 GR;go_wp2_with fail;refine(Uo 5 2 _ [ns,ns2] _ (Zz R1 R2) (by simp) (by have:=hb2.out;have:=F3.out;have:=hk2'.out;have:=HN.out;simp;omega)).mono ?_;rintro e w4⟨v4,rfl,o1,o2⟩;have hal:bW w3 w4:=((Below.refl w3.heap.size w3).alloc nL _).trans (o2.mono (by simp));have E1:Hid (PsAt w4 p g c L k3 b3):=F1.out.below hal;have E5:Hid (But p w.heap.size w w4):=F5.out.trans ((But.of_below hal).mono F5.out.size);have ER:Hid (NdRow w4 w.heap.size v4 (ns++ns2++[⟨5,⟨#[]⟩,⟨#[]⟩,2⟩])):=by
    have:=o1.mono (B':=w.heap.size) (by have:=F5.out.size;simp;omega);show NdRow _ _ _ _
    simpa using this
   clear o1 o2 hal R1 R2
   go_wp2
   go_roundw
   case rel =>
    have hkk:=hk2'.out;have hnn:=HN.out;refine⟨ns++ns2++[⟨5,⟨#[]⟩,⟨#[]⟩,2⟩],k3,b3,by omega,by have:=F3.out;omega,E1,ER,E5,?_⟩;rcases F6.out with⟨e1,e2,z,e3,e4⟩|⟨e1,e2,e3⟩
    .obtain⟨a1,a2,_,_,_,_⟩:=P.rd_rd q' 1 P.nonT _ _ _ (λh=>by omega) e3
     have a2:=a2 (by omega);simp only[List.length_drop]at a2;exact⟨q',.inl ⟨e1,by simp;omega,by omega,by omega,P.orT y z,by rw[HM4.out,e3],by rw[HY.out,e4,Qi]⟩⟩
    exact⟨0,.inr ⟨e1,by simp;omega,by rw[HM4.out,e3]⟩⟩
   rw[Nn N E1.out,Nn N H1.out];have:=hk2'.out;have:=F3.out;have:=HN.out;omega
theorem Na{w:World}{B:Nat}(n:P.Nd)(T:TypeId)(hB:B<=w.heap.size):NdRow (w.alloc (.cells #[X n.kind,Y n.name,Y n.value,X n.kids] T)) B (sP w.heap.size 0 1 1) [n] :=
 ⟨w.heap.size,1,rfl,hB,by simp,λj u hj=>by
  have:=mN w n T j u (by simpa[Cp]using hj);rw[Addr.add_mid]at this
  exact this⟩
def NvAt(w:World)(B:Nat)(n:P.Nd):Prop :=
 (w.cell? (E B 0)=some (X n.kind)/\w.cell? (E B 1)=some (Y n.name)/\w.cell? (E B 2)=some (Y n.value)/\w.cell? (E B 3)=some (X n.kids))/\w.frozen? (E B 0)=false/\w.frozen? (E B 2)=false
theorem NvAt.but{w w':World}{p B B':Nat}{n:P.Nd}(h:NvAt w B n)(hb:But p B' w w')(hB:B<B')(hp:B≠p):NvAt w' B n:=by
 have hk:=hb.block B hB hp;have hc:∀o,w'.cell? (E B o)=w.cell? (E B o):=λo=>World.cell?_of_block (w:=w) (a:=(E B o)) hk
 have hf:∀o,w'.frozen? (E B o)=w.frozen? (E B o):=λo=>World.frozen?_of_block (w:=w) (a:=(E B o)) hk
 obtain⟨⟨a0,a1,a2,a3⟩,b0,b2⟩:=h;exact⟨⟨(hc 0).trans a0,(hc 1).trans a1,(hc 2).trans a2,(hc 3).trans a3⟩,(hf 0).trans b0,(hf 2).trans b2⟩
theorem NvAt.kind{w:World}{B:Nat}{n:P.Nd}(h:NvAt w B n)(k:Int):NvAt (w.setCell (E B 0) (X k)) B ⟨k,n.name,n.value,n.kids⟩:=by
 obtain⟨⟨a0,a1,a2,a3⟩,b0,b2⟩:=h;exact⟨⟨by simp[go_sem,a0],by simp[go_sem,a1],by simp[go_sem,a2],by simp[go_sem,a3]⟩,by simp[go_sem,b0],by simp[go_sem,b2]⟩
theorem NvAt.value{w:World}{B:Nat}{n:P.Nd}(h:NvAt w B n)(v:BA):NvAt (w.setCell (E B 2) (Y v)) B ⟨n.kind,n.name,v,n.kids⟩:=by
 obtain⟨⟨a0,a1,a2,a3⟩,b0,b2⟩:=h;exact⟨⟨by simp[go_sem,a0],by simp[go_sem,a1],by simp[go_sem,a2],by simp[go_sem,a3]⟩,by simp[go_sem,b0],by simp[go_sem,b2]⟩
theorem PsAt.set{w:World}{p g c:Nat}{L:List (List UInt8)}{i:Nat}{b:Bool}(h:PsAt w p g c L i b){B o:Nat}(hp:B≠p)(hg:B≠g)(v:Value):PsAt (w.setCell (E B o) v) p g c L i b:=by
 have hbp:=Below.heap_setCell w (E B o) v p (λe=>hp e.symm);have hbg:=Below.heap_setCell w (E B o) v g (λe=>hg e.symm);have hc:∀o',(w.setCell (E B o) v).cell? (E p o')=w.cell? (E p o'):=λo'=>World.cell?_of_block (w:=w) (a:=(E p o')) hbp
 have hf:∀o',(w.setCell (E B o) v).frozen? (E p o')=w.frozen? (E p o'):=λo'=>World.frozen?_of_block (w:=w) (a:=(E p o')) hbp
 have hr:∀o',(w.setCell (E B o) v).cell? (E g o')=w.cell? (E g o'):=λo'=>World.cell?_of_block (w:=w) (a:=(E g o')) hbg
 exact⟨(hc 0).trans h.c0,(hc 1).trans h.c1,(hc 2).trans h.c2,(hf 1).trans h.f1,(hf 2).trans h.f2,h.ne,by simpa[World.setCell]using h.lt,λj l hj=>(hr j).trans (h.row j l hj)⟩
theorem But.setOther{p B:Nat}{a w:World}(h:But p B a w){k:Nat}(hk:B<=k)(o:Nat)(v:Value):But p B a (w.setCell (E k o) v) :=
 h.trans ⟨rfl,rfl,rfl,by simp[World.setCell],λj hj _=>Below.heap_setCell _ _ _ _ (by show j≠k;omega)⟩
theorem AL(p g c:Nat)(L:List (List UInt8))(f:Nat)(H:Ok 189 0 1 p g c L f)(HO:Ok 149 2 3 p g c L f)(hl:L.length<=200)(hz:∀l∈L,l.length<=200):Ok 189 0 1 p g c L (f+1):=by
 intro i w hp hi hf;have HP:=iH hp;have HH:Hid (Ok 189 0 1 p g c L f):=H;have HO':Hid (Ok 149 2 3 p g c L f):=HO;have HZ:Hid (∀l∈L,l.length<=200):=hz;have hpw:=hp.plt
 have HM:Hid (P.rd (f+1) 0 P.nonT (L.drop i)=match P.tk 33 (L.drop i)with
  |some r=>match P.rd f 0 P.nonT r with
   |none=>none
   |some (y,r')=>some (P.ntT y,r')
  |none=>match P.tk 40 (L.drop i)with
   |some r=>brk f r
   |none=>P.markT (L.drop i)):=rfl
 generalize P.rd (f+1) 0 P.nonT (L.drop i)=M at *;clear hp H HO hz;generalize hN:L.length=N at *;have HN:=iH hN;clear hN;obtain⟨c0,c1,c2,f1,f2,_,_,_⟩:=HP.out;go_enter func189,ntmps189;go_wp2_with fail;clear c0 c1 c2 f1 f2;refine(Hw p g c L i false 33 _ HP (by rw[HN.out];exact hi) (by rw[HN.out];exact hl)).mono ?_;rintro e w2⟨k2,rfl,g1,g2,g3,g4,g5,g6,g7⟩;have G6:=iH g6;have G7:=iH g7;clear g6 g7
 cases hT:P.tk 33 (L.drop i)with
 | some r' =>
  have hk2:k2=i+1:=g4 (by rw[hT];rfl);have G3':Hid (L.drop k2=r'):=by rw[g3,hT];rfl
  have HM4:Hid (M=match P.rd f 0 P.nonT (L.drop k2)with
   |none=>none
   |some (y,r')=>some (P.ntT y,r')):=by rw[HM.out,hT];simp only[];rw[G3'.out];rfl
  have hk2':Hid (k2=i+1):=hk2;have G2:=iH g2;clear hT HM g2 g3 g4 g5 hk2 G3';go_wp2_with fail;refine(HH k2 _ G6 G2 (by have:=HN.out;have:=hk2'.out;have:=G2.out;omega)).mono ?_;rintro e w3⟨v2,ns2,k3,b3,rfl,f1,f2,f3,f4,f5,f6⟩;have f4':=f4;obtain⟨gb,cb,hvb,_,_,_⟩:=f4';subst hvb;have F1:=iH f1;have F5:Hid (But p w.heap.size w w3):=G7.out.trans (f5.mono G7.out.size);have R2:Hid (NdRow w3 0 (sP gb 0 ns2.length cb) ns2):=f4.mono (zL);have F6:=iH f6;have hb2:Hid (ns2.length+k2<=k3+1):=by
   show _<=_
   rcases f6 with⟨_,e,_⟩|⟨_,e,_⟩<;>omega
  have F3:=iH f3;clear f1 f3 f4 f5 f6;go_wp2_with fail;refine(Uo 3 1 _ [ns2] _ (qP R2) (by simp) (by have:=hb2.out;have:=F3.out;have:=HN.out;simp;omega)).mono ?_;rintro e w4⟨v4,rfl,o1,o2⟩;have hal:bW w3 w4:=((Below.refl w3.heap.size w3).alloc nL _).trans (o2.mono (by simp));have E1:Hid (PsAt w4 p g c L k3 b3):=F1.out.below hal;have E5:Hid (But p w.heap.size w w4):=F5.out.trans ((But.of_below hal).mono F5.out.size);have ER:Hid (NdRow w4 w.heap.size v4 (ns2++[⟨3,⟨#[]⟩,⟨#[]⟩,1⟩])):=by
   have:=o1.mono (B':=w.heap.size) (by have:=F5.out.size;simp;omega);show NdRow _ _ _ _
   simpa using this
  clear o1 o2 hal R2
  go_wp2
  go_ret;have hkk:=hk2'.out;refine⟨_,_,k3,b3,rfl,E1,by omega,F3,ER,E5,?_⟩;rcases F6.out with⟨e1,e2,z,e3,e4⟩|⟨e1,e2,e3⟩
  .exact .inl ⟨e1,by simp;omega,P.ntT z,by rw[HM4.out,e3],by rw[e4,Pf]⟩
  exact .inr ⟨e1,by simp;omega,by rw[HM4.out,e3]⟩
 | none =>
  have hk2:k2=i:=g5 (by rw[hT];rfl);subst hk2
  have HM2:Hid (M=match P.tk 40 (L.drop k2)with
   |some r=>brk f r
   |none=>P.markT (L.drop k2)):=by rw[HM.out,hT];rfl
  clear hT HM g1 g2 g3 g4 g5;go_wp2_with fail;refine(Hw p g c L k2 false 40 _ G6 (by rw[HN.out];exact hi) (by rw[HN.out];exact hl)).mono ?_;rintro e w3⟨k3,rfl,d1,d2,d3,d4,d5,d6,d7⟩;have D6:=iH d6;have D7:Hid (But p w.heap.size w w3):=G7.out.trans (d7.mono G7.out.size);clear d6 d7
  cases hT:P.tk 40 (L.drop k2)with
  | some r' =>
   have hk3:k3=k2+1:=d4 (by rw[hT];rfl);have D3':Hid (L.drop k3=r'):=by rw[d3,hT];rfl
   have HM4:Hid (M=match P.rd f 2 P.nonT (L.drop k3)with
    |none=>none
    |some (y,r')=>match P.tk 41 r' with
     |none=>none
     |some r''=>some (y,r'')):=by rw[HM2.out,hT];simp only[];rw[<-D3'.out];rfl
   have hk3':Hid (k3=k2+1):=hk3;have D2:=iH d2;clear hT HM2 d2 d3 d4 d5 hk3 D3';go_wp2_with fail;refine(HO'.out k3 _ D6 D2 (by have:=HN.out;have:=hk3'.out;have:=D2.out;omega)).mono ?_;rintro e w4⟨v2,ns2,k4,b4,rfl,f1,f2,f3,f4,f5,f6⟩;have f4':=f4;obtain⟨gb,cb,hvb,_,_,_⟩:=f4';subst hvb;have F1:=iH f1;have F5:Hid (But p w.heap.size w w4):=D7.out.trans (f5.mono D7.out.size);have R2:Hid (NdRow w4 w.heap.size (sP gb 0 ns2.length cb) ns2):=f4.mono D7.out.size;have F6:=iH f6;have F3:=iH f3;clear f1 f3 f4 f5 f6;go_wp2_with fail;refine(Hw p g c L k4 b4 41 _ F1 F3 (by rw[HN.out];exact hl)).mono ?_;rintro e w5⟨k5,rfl,a1,a2,a3,a4,a5,a6,a7⟩;have A6:=iH a6;have A7:Hid (But p w.heap.size w w5):=F5.out.trans (a7.mono F5.out.size);have R5:Hid (NdRow w5 w.heap.size (sP gb 0 ns2.length cb) ns2):=R2.out.but a7 nL hpw;clear a6 a7 R2
   cases hC:P.tk 41 (L.drop k4)with
   |some r5 =>
    have hk5:k5=k4+1:=a4 (by rw[hC];rfl);have A3:Hid (L.drop k5=r5):=by rw[a3,hC];rfl
    have HC:Hid (P.tk 41 (L.drop k4)=some r5):=hC;have hk5':Hid (k5=k4+1):=hk5;have A2:=iH a2;clear hC a2 a3 a4 a5 hk5
    go_wp2
    go_ret;have hkk:=hk3'.out;have hkk5:=hk5'.out;refine⟨_,ns2,k5,b4,rfl,A6,by omega,A2,R5,A7,?_⟩;rcases F6.out with⟨e1,e2,z,e3,e4⟩|⟨e1,e2,e3⟩
    .exact .inl ⟨e1,by omega,z,by rw[HM4.out,e3];simp only[];rw[HC.out,A3.out],e4⟩
    exact .inr ⟨e1,by omega,by rw[HM4.out,e3]⟩
   |none =>
    have hk5:k5=k4:=a5 (by rw[hC];rfl);have HC:Hid (P.tk 41 (L.drop k4)=none):=hC;have hk5':Hid (k5=k4):=hk5;have A2:=iH a2;clear hC a2 a3 a4 a5 hk5;obtain⟨x0,x1,x2,y1,y2,_,_,_⟩:=A6.out;have R6:Hid (NdRow (w5.setCell (E p 2) (.bool true)) w.heap.size (sP gb 0 ns2.length cb) ns2):=R5.out.but ((But.refl p w5.heap.size w5).set _ _) nL hpw
    go_wp2
    go_ret;have hkk:=hk3'.out;have hkk5:=hk5'.out;refine⟨_,ns2,k5,true,rfl,A6.out.bad,by omega,A2,R6,A7.out.set _ _,?_⟩;rcases F6.out with⟨e1,e2,z,e3,e4⟩|⟨e1,e2,e3⟩
    .exact .inr ⟨rfl,by omega,by rw[HM4.out,e3];simp only[];rw[HC.out]⟩
    exact .inr ⟨rfl,by omega,by rw[HM4.out,e3]⟩
  | none =>
   have hk3:k3=k2:=d5 (by rw[hT];rfl);subst hk3
   have HM4:Hid (M=match P.nm (L.drop k3)with
    |none=>none
    | some (n,r)=>match P.tk 61 r with
     |none=>some (P.nmT (P.bts n),r)
     |some r'=>match P.nm r' with
      |none=>none
      |some (v,r'')=>some (P.vlT (P.bts n) (P.bts v),r'')):=by rw[HM2.out,hT];rfl
   clear hT HM2 d1 d2 d3 d4 d5;go_wp2_with fail;refine(Yv p g c L k3 _ D6 (by rw[HN.out];exact hi) (by rw[HN.out];exact hl) HZ).mono ?_;rintro e w4 (⟨n,h1,h2,rfl,h3,h4⟩|⟨h1,rfl,h3,h4⟩)
   .have hpl:=h3.plt
    have hgl:=h3.lt;have H3:=iH h3;have H4:Hid (But p w.heap.size w w4):=D7.out.trans (h4.mono D7.out.size)
    have HM5:Hid (M=match P.tk 61 (L.drop (k3+1))with
     |none=>some (P.nmT (P.bts n),L.drop (k3+1))
     |some r'=>match P.nm r' with
      |none=>none
      |some (v,r'')=>some (P.vlT (P.bts n) (P.bts v),r'')):=by rw[HM4.out,h1];rfl
    have H2:=iH h2;have hws:=H4.out.size;obtain⟨x0,x1,x2,y1,y2,_,_,_⟩:=h3;clear h1 h2 h4 HM4;go_wp2_with fail;have hal:=(Below.refl _ w4).alloc nL (Obj.cells #[X 1,Y (P.bts n),Y ⟨#[]⟩,X 0] 210);have H5:Hid (PsAt (w4.alloc (Obj.cells #[X 1,Y (P.bts n),Y ⟨#[]⟩,X 0] 210)) p g c L (k3+1) false):=H3.out.below hal;have H6:Hid (But p w.heap.size w (w4.alloc (Obj.cells #[X 1,Y (P.bts n),Y ⟨#[]⟩,X 0] 210))):=H4.out.trans ((But.of_below hal).mono H4.out.size);have H7:Hid (NvAt (w4.alloc (Obj.cells #[X 1,Y (P.bts n),Y ⟨#[]⟩,X 0] 210)) w4.heap.size ⟨1,P.bts n,⟨#[]⟩,0⟩):=⟨⟨by simp,by simp,by simp,by simp⟩,by simp,by simp⟩;have hs5:w4.heap.size<(w4.alloc (Obj.cells #[X 1,Y (P.bts n),Y ⟨#[]⟩,X 0] 210)).heap.size:=by simp
    clear hal x0 x1 x2 y1 y2 H3 H4;generalize w4.alloc (Obj.cells #[X 1,Y (P.bts n),Y ⟨#[]⟩,X 0] 210)=w5 at *;refine(Hw p g c L (k3+1) false 61 _ H5 H2 (by rw[HN.out];exact hl)).mono ?_;rintro e w6⟨k6,rfl,a1,a2,a3,a4,a5,a6,a7⟩;have A6:=iH a6;have A7:Hid (But p w.heap.size w w6):=H6.out.trans (a7.mono H6.out.size);have N6:Hid (NvAt w6 w4.heap.size ⟨1,P.bts n,⟨#[]⟩,0⟩):=H7.out.but a7 hs5 (by omega);have hs6:w4.heap.size<w6.heap.size:=lL hs5 a7.size;clear a6 a7 H5 H6 H7 hs5
    cases hT:P.tk 61 (L.drop (k3+1))with
    |none =>
     have hk6:Hid (k6=k3+1):=a5 (by rw[hT];rfl);have HR1:Hid (M=some (P.nmT (P.bts n),L.drop k6)):=by rw[HM5.out,hT,hk6.out];rfl
     have A2:=iH a2;clear hT HM5 a1 a2 a3 a4 a5;obtain⟨⟨z0,z1,z2,z3⟩,_,_⟩:=N6.out
     go_wp2
     go_ret;have hk:=hk6.out;have hal:=(Below.refl _ w6).alloc nL (Obj.cells #[X 1,Y (P.bts n),Y ⟨#[]⟩,X 0] 210);exact⟨_,[⟨1,P.bts n,⟨#[]⟩,0⟩],k6,false,rfl,A6.out.below hal,by omega,A2,Na ⟨1,P.bts n,⟨#[]⟩,0⟩ _ A7.out.size,A7.out.trans ((But.of_below hal).mono A7.out.size),.inl ⟨rfl,by simp;omega,_,HR1,rfl⟩⟩
    | some r' =>
     have hk6:Hid (k6=k3+1+1):=a4 (by rw[hT];rfl);have A3:Hid (L.drop k6=r'):=by rw[a3,hT];rfl
     have HM6:Hid (M=match P.nm (L.drop k6)with
      |none=>none
      |some (v,r'')=>some (P.vlT (P.bts n) (P.bts v),r'')):=by rw[HM5.out,hT];simp only[];rw[A3.out];rfl
     have A2:=iH a2;clear hT HM5 a1 a2 a3 a4 a5 A3;obtain⟨⟨z0,z1,z2,z3⟩,z4,z5⟩:=N6.out;go_wp2_with fail;have B6:Hid (PsAt (w6.setCell (E w4.heap.size 0) (X 2)) p g c L k6 false):=A6.out.set (by omega) (by omega) _;have B7:Hid (But p w.heap.size w (w6.setCell (E w4.heap.size 0) (X 2))):=A7.out.setOther hws _ _;have N7:Hid (NvAt (w6.setCell (E w4.heap.size 0) (X 2)) w4.heap.size ⟨2,P.bts n,⟨#[]⟩,0⟩):=N6.out.kind 2;have hs7:w4.heap.size<(w6.setCell (E w4.heap.size 0) (X 2)).heap.size:=by simpa[World.setCell]using hs6
     clear z0 z1 z2 z3 z4 z5 A6 A7 N6 hs6;generalize w6.setCell (E w4.heap.size 0) (X 2)=w7 at *;refine(Yv p g c L k6 _ B6 A2 (by rw[HN.out];exact hl) HZ).mono ?_;rintro e w8 (⟨v,h1,h2,rfl,h3,h4⟩|⟨h1,rfl,h3,h4⟩)
     .have HR1:Hid (M=some (P.vlT (P.bts n) (P.bts v),L.drop (k6+1))):=by rw[HM6.out,h1];rfl
      have C6:=iH h3;have C7:Hid (But p w.heap.size w w8):=B7.out.trans (h4.mono B7.out.size);have N8:Hid (NvAt w8 w4.heap.size ⟨2,P.bts n,⟨#[]⟩,0⟩):=N7.out.but h4 hs7 (by omega);have H2':Hid (k6<L.length):=h2;clear h1 h2 h3 h4 HM6 B6 B7 N7;obtain⟨⟨z0,z1,z2,z3⟩,z4,z5⟩:=N8.out
      go_wp2
      go_ret;have S6:=C6.out.set (B:=w4.heap.size) (o:=2) (by omega) (by omega) (Y (P.bts v));have S7:=C7.out.setOther (k:=w4.heap.size) hws 2 (Y (P.bts v));have R:=Na (w:=w8.setCell (E w4.heap.size 2) (Y (P.bts v))) (B:=w.heap.size) ⟨2,P.bts n,(P.bts v),0⟩ 210 S7.size;simp only[World.size_setCell]at R;have hal:=(Below.refl (w8.setCell (E w4.heap.size 2) (Y (P.bts v))).heap.size (w8.setCell (E w4.heap.size 2) (Y (P.bts v)))).alloc nL (Obj.cells #[X 2,Y (P.bts n),Y (P.bts v),X 0] 210);have hk:=hk6.out;exact⟨_,[⟨2,P.bts n,(P.bts v),0⟩],k6+1,false,rfl,S6.below hal,by omega,H2'.out,R,S7.trans ((But.of_below hal).mono S7.size),.inl ⟨rfl,by simp;omega,_,HR1,rfl⟩⟩
     have HR1:Hid (M=none):=by rw[HM6.out,h1];rfl
     have C6:=iH h3;have C7:Hid (But p w.heap.size w w8):=B7.out.trans (h4.mono B7.out.size);have N8:Hid (NvAt w8 w4.heap.size ⟨2,P.bts n,⟨#[]⟩,0⟩):=N7.out.but h4 hs7 (by omega);clear h1 h3 h4 HM6 B6 B7 N7;obtain⟨⟨z0,z1,z2,z3⟩,z4,z5⟩:=N8.out
     go_wp2
     go_ret;have S6:=C6.out.set (B:=w4.heap.size) (o:=2) (by omega) (by omega) (Y ⟨#[]⟩);have S7:=C7.out.setOther (k:=w4.heap.size) hws 2 (Y ⟨#[]⟩);have R:=Na (w:=w8.setCell (E w4.heap.size 2) (Y ⟨#[]⟩)) (B:=w.heap.size) ⟨2,P.bts n,⟨#[]⟩,0⟩ 210 S7.size;simp only[World.size_setCell]at R;have hal:=(Below.refl (w8.setCell (E w4.heap.size 2) (Y ⟨#[]⟩)).heap.size (w8.setCell (E w4.heap.size 2) (Y ⟨#[]⟩))).alloc nL (Obj.cells #[X 2,Y (P.bts n),Y ⟨#[]⟩,X 0] 210);have hk:=hk6.out;exact⟨_,[⟨2,P.bts n,⟨#[]⟩,0⟩],k6,true,rfl,S6.below hal,by omega,A2,R,S7.trans ((But.of_below hal).mono S7.size),.inr ⟨rfl,by simp;omega,HR1⟩⟩
   have HR1:Hid (M=none):=by rw[HM4.out,h1];rfl
   have hpl:=h3.plt;have H3:=iH h3;have H4:Hid (But p w.heap.size w w4):=D7.out.trans (h4.mono D7.out.size);obtain⟨x0,x1,x2,y1,y2,_,_,_⟩:=h3;clear h1 h4 HM4
   go_wp2
   go_ret;have hal:=(Below.refl _ w4).alloc nL (Obj.cells #[X 1,Y ⟨#[]⟩,Y ⟨#[]⟩,X 0] 210);have S6:=H3.out.below hal;have S7:=H4.out.trans ((But.of_below (p:=p) hal).mono H4.out.size);have R:=Na (w:=w4.alloc (Obj.cells #[X 1,Y ⟨#[]⟩,Y ⟨#[]⟩,X 0] 210)) (B:=w.heap.size) ⟨1,⟨#[]⟩,⟨#[]⟩,0⟩ 210 S7.size;simp only[World.size_alloc]at R;have hal2:=(Below.refl (w4.alloc (Obj.cells #[X 1,Y ⟨#[]⟩,Y ⟨#[]⟩,X 0] 210)).heap.size (w4.alloc (Obj.cells #[X 1,Y ⟨#[]⟩,Y ⟨#[]⟩,X 0] 210))).alloc nL (Obj.cells #[X 1,Y ⟨#[]⟩,Y ⟨#[]⟩,X 0] 210);exact⟨_,[⟨1,⟨#[]⟩,⟨#[]⟩,0⟩],k3,true,rfl,S6.below hal2,Nat.le_refl _,by rw[HN.out];exact hi,R,S7.trans ((But.of_below hal2).mono S7.size),.inr ⟨rfl,by simp;omega,HR1⟩⟩
theorem Rw(F:FuncId)(m cc p g c:Nat)(L:List (List UInt8))(hc:1<=cc):Ok F m cc p g c L 0:=by
 intro i w _ _ hf;omega
theorem uC(p g c:Nat)(L:List (List UInt8))(hl:L.length<=200)(hz:∀l∈L,l.length<=200):∀f q,q<=f->Ok 189 0 1 p g c L q/\Ok 168 1 2 p g c L q/\Ok 149 2 3 p g c L q
 |0,q,hq=>by
  have:q=0:=by omega
  subst this;exact⟨Rw _ _ _ _ _ _ _ (by omega),Rw _ _ _ _ _ _ _ (by omega),Rw _ _ _ _ _ _ _ (by omega)⟩
 |f+1,q,hq=>by
  have ih:=uC p g c L hl hz f;by_cases h:q<=f
  .exact ih q h
  have:q=f+1:=by omega
  subst this;exact⟨AL p g c L f (ih f nL).1 (ih f nL).2.2 hl hz,zO p g c L f (λq hq=>(ih q hq).1) hl,BX p g c L f (λq hq=>(ih q hq).2.1) hl⟩
end Go.Proofs.YthboopnmbglkjaaGreat
