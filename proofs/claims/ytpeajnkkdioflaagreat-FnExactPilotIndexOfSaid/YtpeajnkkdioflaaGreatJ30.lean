import Derived.Test.YtpeajnkkdioflaaGreatJ29
namespace Go.Proofs.YtpeajnkkdioflaaGreat
open Go.RowKit
def nOk:P.Tr→Prop
 | .nil=>True
 | .node b _ p l r=>b≠0∧(b=1→P.nameOk p.1=true)∧(b=2→P.nameOk p.1=true∧P.nameOk p.2=true)∧nOk l∧nOk r
theorem lF {n:ByteArray} (h:P.nameOk n=true):nOk (P.nmT n):=⟨(by omega),fun _=>h,(fun e=>by omega),trivial,trivial⟩
theorem kC {n v:ByteArray} (h:P.nameOk n=true) (h':P.nameOk v=true):nOk (P.vlT n v):=⟨(by omega),(fun e=>by omega),fun _=>⟨h,h'⟩,trivial,trivial⟩
theorem kY {k:P.Tr} (h:nOk k):nOk (P.ntT k):=⟨(by omega),(fun e=>by omega),(fun e=>by omega),h,trivial⟩
theorem kT {a b:P.Tr} (h:nOk a) (h':nOk b):nOk (P.anT a b):=⟨(by omega),(fun e=>by omega),(fun e=>by omega),h,h'⟩
theorem lG {a b:P.Tr} (h:nOk a) (h':nOk b):nOk (P.orT a b):=⟨(by omega),(fun e=>by omega),(fun e=>by omega),h,h'⟩
theorem Pm {l:List UInt8} (h:P.nmB l=true):Dv l=true:=by
 unfold P.nmB at h;simp only [Bool.and_eq_true,decide_eq_true_eq] at h;exact Ml (fun e=>by rw [e] at h;simp at h) (List.all_eq_true.1 h.2)
def Rd2 (l:List (List UInt8)) (y:P.Tr) (r:List (List UInt8)):Prop:=nOk y∧∃ pre,l=pre++r∧pre.all Dv=true
theorem Ox {s:UInt8} {l r:List (List UInt8)} (h:P.tk s l=some r) (hs:Dv [s]=true):∃ pre,l=pre++r∧pre.all Dv=true:=⟨[[s]],by rw [P.tk_some h];rfl,by simp [hs]⟩
theorem Dk {l r q:List (List UInt8)} (h:∃ pre,l=pre++r∧pre.all Dv=true) (h':∃ pre,r=pre++q∧pre.all Dv=true):∃ pre,l=pre++q∧pre.all Dv=true:=by
 obtain ⟨a,rfl,h1⟩:=h;obtain ⟨b,rfl,h2⟩:=h';exact ⟨a++b,by simp,by rw [List.all_append,h1,h2];rfl⟩
theorem fM {l r:List (List UInt8)} {y:P.Tr} (h:P.markT l=some (y,r)):Rd2 l y r:=by
 unfold P.markT at h
 split at h
 ·cases h
 ·next n q hn =>
  obtain ⟨e1,e2⟩:=P.nm_some hn
  split at h
  ·injection h with h;injection h with h1 h2;subst h1 h2
   exact ⟨lF ((P.nmB_eq n).trans e2),[n],by rw [e1];rfl,by simp [Pm e2]⟩
  ·next q' hq =>
   split at h
   ·cases h
   ·next v r' hv =>
    obtain ⟨e3,e4⟩:=P.nm_some hv;injection h with h;injection h with h1 h2;subst h1 h2;refine ⟨kC ((P.nmB_eq n).trans e2) ((P.nmB_eq v).trans e4),[n,[61],v],?_,?_⟩
    ·rw [e1,P.tk_some hq,e3];rfl
    ·simp [Pm e2,Pm e4];decide
theorem Fk:∀ (f m:Nat) (x:P.Tr) (l:List (List UInt8)) (y:P.Tr) (r:List (List UInt8)),(2<m→nOk x)→P.rd f m x l=some (y,r)→Rd2 l y r
 | 0,m,x,l,y,r,_,h=>by cases m <;> cases h
 | f+1,0,x,l,y,r,_,h=>by
  unfold P.rd at h
  split at h
  ·next q hq =>
   split at h
   ·cases h
   ·next z r' hz =>
    injection h with h;injection h with h1 h2;subst h1 h2;obtain ⟨a1,a3⟩:=Fk f 0 _ _ _ _ (fun h=>by omega) hz;exact ⟨kY a1,Dk (Ox hq (by decide)) a3⟩
  ·split at h
   ·next q hq =>
    split at h
    ·cases h
    ·next z r' hz =>
     split at h
     ·cases h
     ·next r'' hr =>
      injection h with h;injection h with h1 h2;subst h1 h2;obtain ⟨a1,a3⟩:=Fk f 2 _ _ _ _ (fun h=>by omega) hz;exact ⟨a1,Dk (Ox hq (by decide)) (Dk a3 (Ox hr (by decide)))⟩
   ·exact fM h
 | f+1,1,x,l,y,r,_,h=>by
  unfold P.rd at h
  split at h
  ·cases h
  ·next z q hz =>
   obtain ⟨a1,a3⟩:=Fk f 0 _ _ _ _ (fun h=>by omega) hz;obtain ⟨b1,b3⟩:=Fk f 3 _ _ _ _ (fun _=>a1) h;exact ⟨b1,Dk a3 b3⟩
 | f+1,2,x,l,y,r,_,h=>by
  unfold P.rd at h
  split at h
  ·cases h
  ·next z q hz =>
   obtain ⟨a1,a3⟩:=Fk f 1 _ _ _ _ (fun h=>by omega) hz;obtain ⟨b1,b3⟩:=Fk f 4 _ _ _ _ (fun _=>a1) h;exact ⟨b1,Dk a3 b3⟩
 | f+1,3,x,l,y,r,hx,h=>by
  have x1:=hx (by omega);unfold P.rd at h
  split at h
  ·injection h with h;injection h with h1 h2;subst h1 h2
   exact ⟨x1,[],rfl,rfl⟩
  ·next q hq =>
   split at h
   ·cases h
   ·next z r' hz =>
    obtain ⟨a1,a3⟩:=Fk f 0 _ _ _ _ (fun h=>by omega) hz;obtain ⟨b1,b3⟩:=Fk f 3 _ _ _ _ (fun _=>kT x1 a1) h;exact ⟨b1,Dk (Ox hq (by decide)) (Dk a3 b3)⟩
 | f+1,m+4,x,l,y,r,hx,h=>by
  have x1:=hx (by omega);unfold P.rd at h
  split at h
  ·injection h with h;injection h with h1 h2;subst h1 h2
   exact ⟨x1,[],rfl,rfl⟩
  ·next q hq =>
   split at h
   ·cases h
   ·next z r' hz =>
    obtain ⟨a1,a3⟩:=Fk f 1 _ _ _ _ (fun h=>by omega) hz;obtain ⟨b1,b3⟩:=Fk f 4 _ _ _ _ (fun _=>lG x1 a1) h;exact ⟨b1,Dk (Ox hq (by decide)) (Dk a3 b3)⟩
theorem Hl {n:P.Nd} {ts ks:List P.Tr} (hc:n.kids=(ks.length:Int)):P.stepI n (ts++ks)=(match P.grow n ks with | none=>none | some t=>if 20<P.tall t then none else some (ts++[t])):=by
 rw [P.stepI_in ts.length ks.length hc (by simp)];simp;rfl
theorem jC {n:ByteArray} (h:P.nameOk n=true):P.grow ⟨1,n,⟨#[]⟩,0⟩ []=some (P.nmT n):=by
 unfold P.grow;rw [if_pos ⟨rfl,rfl,h,rfl⟩]
theorem gV {n v:ByteArray} (h:P.nameOk n=true) (h':P.nameOk v=true):P.grow ⟨2,n,v,0⟩ []=some (P.vlT n v):=by
 unfold P.grow;rw [if_neg (fun e=>by cases e.1),if_pos ⟨rfl,rfl,h,h'⟩]
theorem iD (k:P.Tr):P.grow ⟨3,⟨#[]⟩,⟨#[]⟩,1⟩ [k]=some (P.ntT k):=by simp [P.grow,ByteArray.size]
theorem jA (a b:P.Tr):P.grow ⟨4,⟨#[]⟩,⟨#[]⟩,2⟩ ([a]++[b])=some (P.anT a b):=by simp [P.grow,ByteArray.size]
theorem jK (a b:P.Tr):P.grow ⟨5,⟨#[]⟩,⟨#[]⟩,2⟩ ([a]++[b])=some (P.orT a b):=by simp [P.grow,ByteArray.size]
theorem cK (y:P.Tr) (hw:P.wf y):nOk y→∀ (rest:List P.Nd) (ts:List P.Tr),P.runI (post y++rest) ts=if P.tall y≤20 then P.runI rest (ts++[y]) else none:=by
 refine P.wf_ind (p:=fun y=>nOk y→∀ (rest:List P.Nd) (ts:List P.Tr),P.runI (post y++rest) ts=if P.tall y≤20 then P.runI rest (ts++[y]) else none) ?_ ?_ ?_ ?_ ?_ ?_ y hw
 ·intro h;exact absurd rfl h.1
 ·intro n hn rest ts
  have h1:=hn.2.1 rfl;rw [Zv,P.tall_nm,if_pos (by omega)];show (match P.stepI _ ts with | none=>none | some ts'=>P.runI rest ts')=_
  have:=Hl (n:=⟨1,n,⟨#[]⟩,0⟩) (ts:=ts) (ks:=[]) rfl;rw [List.append_nil] at this;rw [this];rw [jC h1];simp [P.tall_nm]
 ·intro n v hn rest ts
  obtain ⟨h1,h2⟩:=hn.2.2.1 rfl;rw [Zx,P.tall_vl,if_pos (by omega)];show (match P.stepI _ ts with | none=>none | some ts'=>P.runI rest ts')=_
  have:=Hl (n:=⟨2,n,v,0⟩) (ts:=ts) (ks:=[]) rfl;rw [List.append_nil] at this;rw [this];rw [gV h1 h2];simp [P.tall_vl]
 ·intro k _ ih hn rest ts
  obtain ⟨_,_,_,nk,_⟩:=hn;rw [Lj,List.append_assoc,ih nk];by_cases h1:P.tall k≤20
  ·rw [if_pos h1]
   show (match P.stepI _ (ts++[k]) with | none=>none | some ts'=>P.runI rest ts')=_
   rw [Hl (n:=⟨3,⟨#[]⟩,⟨#[]⟩,1⟩) (ts:=ts) (ks:=[k]) rfl];simp only [iD];by_cases h3:20<P.tall (P.ntT k)
   ·rw [if_pos h3,if_neg (by omega)]
   ·rw [if_neg h3,if_pos (by omega)]
  ·rw [if_neg h1,if_neg (by rw [P.tall_nt];omega)]
 ·intro a b _ _ iha ihb hn rest ts
  obtain ⟨_,_,_,na,nb⟩:=hn;rw [Kz,List.append_assoc,List.append_assoc,iha na];by_cases h1:P.tall a≤20
  ·rw [if_pos h1,ihb nb]
   by_cases h2:P.tall b≤20
   ·rw [if_pos h2]
    show (match P.stepI _ ((ts++[a])++[b]) with | none=>none | some ts'=>P.runI rest ts')=_
    rw [List.append_assoc,Hl (n:=⟨4,⟨#[]⟩,⟨#[]⟩,2⟩) (ts:=ts) (ks:=[a]++[b]) rfl];simp only [jA];by_cases h3:20<P.tall (P.anT a b)
    ·rw [if_pos h3,if_neg (by omega)]
    ·rw [if_neg h3,if_pos (by omega)]
   ·rw [if_neg h2,if_neg (by rw [P.tall_an];omega)]
  ·rw [if_neg h1,if_neg (by rw [P.tall_an];omega)]
 ·intro a b _ _ iha ihb hn rest ts
  obtain ⟨_,_,_,na,nb⟩:=hn;rw [Lq,List.append_assoc,List.append_assoc,iha na];by_cases h1:P.tall a≤20
  ·rw [if_pos h1,ihb nb]
   by_cases h2:P.tall b≤20
   ·rw [if_pos h2]
    show (match P.stepI _ ((ts++[a])++[b]) with | none=>none | some ts'=>P.runI rest ts')=_
    rw [List.append_assoc,Hl (n:=⟨5,⟨#[]⟩,⟨#[]⟩,2⟩) (ts:=ts) (ks:=[a]++[b]) rfl];simp only [jK];by_cases h3:20<P.tall (P.orT a b)
    ·rw [if_pos h3,if_neg (by omega)]
    ·rw [if_neg h3,if_pos (by omega)]
   ·rw [if_neg h2,if_neg (by rw [P.tall_or];omega)]
  ·rw [if_neg h1,if_neg (by rw [P.tall_or];omega)]
theorem aT {y:P.Tr} (hw:P.wf y) (h:nOk y):P.lone (post y)=false:=by
 rcases P.wf_cases hw with rfl | ⟨n,rfl⟩ | ⟨n,v,rfl⟩ | ⟨k,_,rfl⟩ | ⟨a,b,_,_,rfl⟩ | ⟨a,b,_,_,rfl⟩
 ·exact absurd rfl h.1
 ·rfl
 ·rfl
 ·rw [Lj]
  cases post k with
  | nil=>rfl
  | cons x r=>cases r <;> rfl
 ·rw [Kz]
  cases post a++post b with
  | nil=>rfl
  | cons x r=>cases r <;> rfl
 ·rw [Lq]
  cases post a++post b with
  | nil=>rfl
  | cons x r=>cases r <;> rfl
theorem Oz {y:P.Tr} (hw:P.wf y) (h:nOk y):P.treeI (post y)=if P.tall y≤20 then some y else none:=by
 unfold P.treeI;rw [if_neg (by rw [aT hw h];exact Bool.false_ne_true)];have:=cK y hw h [] [];rw [List.append_nil] at this;rw [this];by_cases h20:P.tall y≤20
 ·rw [if_pos h20,if_pos h20];rfl
 ·rw [if_neg h20,if_neg h20]
theorem Wj (y:P.Tr) (hw:P.wf y):(post y).length=P.count y:=by
 refine P.wf_ind (p:=fun y=>(post y).length=P.count y) ?_ ?_ ?_ ?_ ?_ ?_ y hw
 ·rfl
 ·intro n;rfl
 ·intro n v;rfl
 ·intro k _ ih;rw [Lj,P.count_nt];simp;omega
 ·intro a b _ _ ia ib;rw [Kz,P.count_an];simp;omega
 ·intro a b _ _ ia ib;rw [Lq,P.count_or];simp;omega
theorem Yv (y:P.Tr) (hw:P.wf y):nOk y→∀ n∈post y,n.name.size≤20∧n.value.size≤20:=by
 refine P.wf_ind (p:=fun y=>nOk y→∀ n∈post y,n.name.size≤20∧n.value.size≤20) ?_ ?_ ?_ ?_ ?_ ?_ y hw
 ·intro h;exact absurd rfl h.1
 ·intro n hn m hm
  rw [Zv] at hm;simp at hm;subst hm;exact ⟨(P.nameOk_pos (hn.2.1 rfl)).2,by show (0:Nat)≤20;omega⟩
 ·intro n v hn m hm
  rw [Zx] at hm;simp at hm;subst hm;obtain ⟨h1,h2⟩:=hn.2.2.1 rfl;exact ⟨(P.nameOk_pos h1).2,(P.nameOk_pos h2).2⟩
 ·intro k _ ih hn m hm
  rw [Lj] at hm;rcases List.mem_append.1 hm with hm | hm
  ·exact ih hn.2.2.2.1 m hm
  ·simp at hm;subst hm;exact ⟨by show (0:Nat)≤20;omega,by show (0:Nat)≤20;omega⟩
 ·intro a b _ _ ia ib hn m hm
  rw [Kz] at hm;rcases List.mem_append.1 hm with hm | hm
  ·rcases List.mem_append.1 hm with hm | hm
   ·exact ia hn.2.2.2.1 m hm
   ·exact ib hn.2.2.2.2 m hm
  ·simp at hm;subst hm;exact ⟨by show (0:Nat)≤20;omega,by show (0:Nat)≤20;omega⟩
 ·intro a b _ _ ia ib hn m hm
  rw [Lq] at hm;rcases List.mem_append.1 hm with hm | hm
  ·rcases List.mem_append.1 hm with hm | hm
   ·exact ia hn.2.2.2.1 m hm
   ·exact ib hn.2.2.2.2 m hm
  ·simp at hm;subst hm;exact ⟨by show (0:Nat)≤20;omega,by show (0:Nat)≤20;omega⟩
end Go.Proofs.YtpeajnkkdioflaaGreat
namespace Go.Proofs.YtpeajnkkdioflaaGreat.P
theorem same_tree2 {ns:List Nd} (h:treeOk ns=true):∃ out r t,kidsOf ns=some (out,[r])∧out.length=ns.length∧r+1=ns.length∧IsT ns out r t ∧
  (tall t≤20→treeI ns=some t)∧(20<tall t→treeI ns=none)∧(t=nonT∨Xq t)∧count t≤ns.length:=by
 obtain ⟨out,r,t,e1,e2,e3,e4,e5,e6⟩:=bD h;by_cases hl:lone ns=true
 ·obtain ⟨n,rfl,k0,k1,k2,k3⟩:=Kl hl
  have hkk:kidsOf [n]=some ([[]],[0]):=by simp [kidsOf,runK,stepK,k1]
  rw [hkk] at e1;simp only [Option.some.injEq,Prod.mk.injEq,List.cons.injEq,and_true] at e1;obtain ⟨rfl,rfl⟩:=e1;refine ⟨[[]],0,nonT,hkk,rfl,rfl,Sz rfl k0 rfl,?_,?_,.inl rfl,Nat.le_refl _⟩
  ·intro _;simp [treeI,hl]
  ·intro hh;simp [Vr] at hh
 ·simp only [treeOk,Bool.and_eq_true,decide_eq_true_eq,List.all_eq_true] at h
  obtain ⟨⟨h1,h2⟩,h3⟩:=h;have hall:∀ n∈ns,n.kind≠0∧nodeOk ns.length n=true:=by
   intro n hn;refine ⟨fun e=>?_,h3 n hn⟩;have hk:=h3 n hn;simp only [nodeOk,e,arity,Bool.and_eq_true] at hk;simp at hk;obtain ⟨⟨⟨k1,k2⟩,k3⟩,k4⟩:=hk;have hlen:ns.length=1:=by
    have:=List.length_pos_of_mem hn;omega
   match ns,hlen with
   | [m],_ =>
    simp at hn;subst hn;exact hl (by simp [lone,e,k1,k3,k4])
  rcases sim ns hall ns 0 [] [] [] rfl rfl ⟨rfl,fun j a t h=>by simp at h⟩ with ⟨ha,_⟩ | ⟨o,s,ts,a,b,c,d⟩
  ·rw [show runK ns 0 [] []=kidsOf ns from rfl,e1] at ha;cases ha
  ·rw [show runK ns 0 [] []=kidsOf ns from rfl,e1] at a
   simp only [Option.some.injEq,Prod.mk.injEq] at a;obtain ⟨rfl,rfl⟩:=a;obtain ⟨c1,c2⟩:=c
   match ts,c1 with
   | [u],_ =>
    obtain ⟨_,f2,f3,_⟩:=Hn ns [] [u] b;simp at f2;refine ⟨out,r,u,e1,e2,e3,(c2 0 r u rfl rfl).1,?_,?_,.inr (f3 (by intro x hx;cases hx) u (by simp)),by omega⟩
    ·intro ht
     have:=Mg ns [] [u] b (by intro x hx;simp at hx;subst hx;exact ht);simp [treeI,hl,this]
    ·intro ht
     unfold treeI;rw [if_neg hl]
     cases hi:runI ns [] with
     | none=>rfl
     | some us =>
      obtain ⟨q1,q2⟩:=Jl ns [] us hi;rw [b] at q1;simp only [Option.some.injEq] at q1;subst q1;have:=q2 (by intro x hx;cases hx) u (by simp);omega
theorem tall_le_count:∀ (t:Tr),tall t≤count t
 | .nil=>Nat.le_refl _
 | .node b _ _ l r=>by
  have h1:=tall_le_count l;have h2:=tall_le_count r;unfold tall count
  split
  ·omega
  ·split
   ·omega
   ·omega
end Go.Proofs.YtpeajnkkdioflaaGreat.P
namespace Go.Proofs.YtpeajnkkdioflaaGreat
open Go.RowKit
def Vt (ns:List P.Nd):Prop:=ns.length≤1048576∧∀ n∈ns,n.name.size≤1048576∧n.value.size≤1048576
def Nodes0 (w:World) (g:Nat) (ns:List P.Nd):Prop :=
 g<w.heap.size∧∀ (j:Nat) (n:P.Nd),ns[j]?=some n→w.cell? ⟨g,j*4,none⟩=some (.int .i64 n.kind)∧w.cell? ⟨g,j*4+1,none⟩=some (.string n.name)∧w.cell? ⟨g,j*4+2,none⟩=some (.string n.value)∧w.cell? ⟨g,j*4+3,none⟩=some (.int .i64 n.kids)
theorem Nodes0.below {w wr:World} {g:Nat} {ns:List P.Nd} {B:Nat} (h:Nodes0 w g ns) (hb:Below B w wr) (hB:g<B):Nodes0 wr g ns:=by
 refine ⟨Nat.lt_of_lt_of_le h.1 hb.size,?_⟩;intro j n hj;obtain ⟨q0,q1,q2,q3⟩:=h.2 j n hj;exact ⟨(hb.cell (p:=⟨g,_,none⟩) hB).trans q0,(hb.cell (p:=⟨g,_,none⟩) hB).trans q1,(hb.cell (p:=⟨g,_,none⟩) hB).trans q2,(hb.cell (p:=⟨g,_,none⟩) hB).trans q3⟩
theorem Nodes0.grown {w wr:World} {g:Nat} {ns:List P.Nd} (h:Nodes0 w g ns) (hb:Below w.heap.size w wr):Nodes0 wr g ns:=h.below hb h.1
theorem Nodes0.setCell {w:World} {g:Nat} {ns:List P.Nd} (h:Nodes0 w g ns) {a:Addr} (ha:g≠a.block) (v:Value):Nodes0 (w.setCell a v) g ns:=by
 have hb:(w.setCell a v).heap[g]?=w.heap[g]?:=Below.heap_setCell w a v g ha;have key:∀ o,(w.setCell a v).cell? ⟨g,o,none⟩=w.cell? ⟨g,o,none⟩:=fun o=>World.cell?_of_block (w:=w) (a:=⟨g,o,none⟩) hb
 refine ⟨by simpa [World.setCell] using h.1,?_⟩;intro j n hj;obtain ⟨q0,q1,q2,q3⟩:=h.2 j n hj;exact ⟨(key _).trans q0,(key _).trans q1,(key _).trans q2,(key _).trans q3⟩
theorem Qu (w:World) (x:Value) (T:TypeId):∀ j u,[x][j]?=some u→(w.alloc (.cells #[x] T)).cell? ((⟨w.heap.size,0,none⟩:Addr).add j)=some u:=by
 intro j u hj
 match j,hj with
 | 0,hj=>simp at hj;subst hj;simp [Addr.add]
theorem Va {w:World} {base:Nat} {e:TypeId} {g n cap:Nat} {xs:List Value} (h:w.ownsRow base e 1 (.slice (some ⟨g,0,none⟩) n cap) n xs) (r:Nat) (hr:r≤n) :
  w.ownsRow base e 1 (.slice (some ⟨g,0,none⟩) r cap) r (xs.take r):=by
 have hl:=h.1;refine ⟨by rw [List.length_take];omega,?_⟩;rcases h.2 with ⟨h',_⟩ | ⟨g',cap',cur,h1,h2,h3,h4,h5,h6,h7⟩
 ·simp at h'
 ·simp only [Value.slice.injEq,Option.some.injEq,Addr.mk.injEq,and_true,true_and] at h1
  obtain ⟨rfl,rfl⟩:=h1;refine .inr ⟨g,cap,cur,rfl,h2,h3,by omega,h5,h6,?_⟩;rw [← h7,List.take_take]
  congr 1
  omega
theorem aV {w:World} {B n:Nat} {e:TypeId} {v:Value} {xs:List Value} (h:w.ownsRow B e 1 v n xs):∃ a cap,v=.slice a n cap:=by
 rcases h.2 with ⟨rfl,rfl⟩ | ⟨g,cap,cur,rfl,_⟩
 ·exact ⟨_,_,rfl⟩
 ·exact ⟨_,_,rfl⟩
end Go.Proofs.YtpeajnkkdioflaaGreat
