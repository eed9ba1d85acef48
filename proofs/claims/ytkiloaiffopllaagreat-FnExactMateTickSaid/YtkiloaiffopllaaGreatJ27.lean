import Derived.Test.YtkiloaiffopllaaGreatJ26
import Derived.Test.YtkiloaiffopllaaGreatJ22
namespace Go.Proofs.YtkiloaiffopllaaGreat
open Go.RowKit
def Wa (l:List Rn) (m:Bool):List Rn:=if m=true then ((l.filter (fun r=>alB r.state)).filter (fun r=>!(r.want.hold.toList == []))).map Dj else l.filter (fun r=>alB r.state)
def Gt (x:Mte) (m:Bool):Mte:=if mvB x=true then ⟨x.name,false,x.clock,false,0,[],Wa x.runs m,[],[]⟩ else Gp
def Ek (m:Bool) (r:Rn):Bool:=alB r.state && (!m || !(r.want.hold.toList == []))
def Bs (l:List Rn) (m:Bool):List Rn:=(l.filter (Ek m)).map (fun r=>if m=true then Dj r else r)
theorem Vq (l:List Rn) (m:Bool):Wa l m=Bs l m:=by
 unfold Wa Bs
 cases m with
 | false =>
  simp only [Bool.false_eq_true,if_false,List.map_id']
  congr 1
  funext r;simp [Ek]
 | true =>
  simp only [if_true,List.filter_filter]
  congr 1
  congr 1
  funext r;simp [Ek,Bool.and_comm]
theorem aI {m:Bool} {l:List Rn} {k:Nat} {r:Rn} (h:l[k]?=some r):Bs (l.take (k+1)) m=Bs (l.take k) m++Bs [r] m:=by
 unfold Bs;rw [List.take_add_one,h,List.filter_append,List.map_append];rfl
theorem Oy {m:Bool} {r:Rn} (h:Ek m r=false):Bs [r] m=[]:=by
 unfold Bs;simp [h]
theorem Ma {P:Rn→Bool} {l:List Rn} (h:l.length≤1048576) (z:Iv l 1048576):(l.filter P).length≤1048576∧Iv (l.filter P) 1048576 :=
 ⟨lT (List.length_filter_le _ _) h,fun r hr=>z r (List.mem_filter.1 hr).1⟩
theorem St {l:List Rn} (h:l.length≤1048576) (z:Iv l 1048576):(l.map Dj).length≤1048576∧Iv (l.map Dj) 1048576 :=
 ⟨by rw [List.length_map];exact h,fun r hr=>by
  obtain ⟨y,hy,rfl⟩:=List.mem_map.1 hr
  exact z y hy⟩
theorem Yx {l:List Rn} {m:Bool} (h:l.length≤1048576) (z:Iv l 1048576):(Bs l m).length≤1048576∧Iv (Bs l m) 1048576:=by
 have hk:=Ma (P:=Ek m) h z
 cases m with
 | false =>
  have e:Bs l false=l.filter (Ek false):=by simp [Bs]
  rw [e];exact hk
 | true=>exact St hk.1 hk.2
theorem cA {l:List Rn} {P:Rn→Bool}:(l.filter P).length+((l.filter P).map wRn).sum≤l.length+(l.map wRn).sum:=by
 induction l with
 | nil=>simp
 | cons r t ih =>
  simp only [List.filter_cons]
  split <;> simp only [List.length_cons,List.map_cons,List.sum_cons] <;> omega
theorem Zo (l:List Rn):(l.map Dj).map wRn=l.map wRn:=by
 rw [List.map_map];rfl
theorem aS (x:Mte) (m:Bool):Cy (Gt x m)≤Cy x:=by
 unfold Gt
 split
 ·have h1:wS wRn (Wa x.runs m)≤wS wRn x.runs:=by
   rw [Vq];have h2:=cA (l:=x.runs) (P:=Ek m);unfold wS
   cases m with
   | false =>
    have e:Bs x.runs false=x.runs.filter (Ek false):=by simp [Bs]
    rw [e];exact h2
   | true =>
    have e:Bs x.runs true=(x.runs.filter (Ek true)).map Dj:=by simp [Bs]
    rw [e,Zo,List.length_map];exact h2
  have h3:wS Cx []=0:=rfl;have h4:wS Cq []=0:=rfl;unfold Cy;simp only;omega
 ·exact zL
theorem Dm {base:Nat} {e:TypeId} {s n:Nat} {v:Value} {cs:List Value} {w:World} (h:w.ownsRow base e s v n cs) {a:Addr} (u:Value) (hne:∀ g c,v=.slice (some ⟨g,0,none⟩) n c→g≠a.block):(w.setCell a u).ownsRow base e s v n cs:=by
 refine ⟨h.1,?_⟩;rcases h.2 with h' | ⟨g,cap,cur,h1,h2,h3,h4⟩
 ·exact .inl h'
 ·exact .inr ⟨g,cap,cur,h1,h2,(Below.heap_setCell w a u g (hne g cap h1)).trans h3,h4⟩
def soW (x:Mte) (r:Rn):Bool:=match x.wants.find? (fun w=>decide (w.copy=r.want.copy)) with
 | some w=>eqW w r.want
 | none=>false
def lvX (x:Mte) (r:Rn):Rn×Bool:=Bd r (!soW x r) x.clock
def liveM (x:Mte):Mte:=x.runs.foldl (liveStep (lvX x)) x
def startM (x:Mte):Mte:=x.wants.foldl startStep x
def Ii (x:Mte) (r:Rn):Bool:=!(r.want.hold.toList == []) && (soW x r && Bz x r.want)
def aL (x:Mte) (w:Wnt):Pcl:=⟨2,x.name,0,[],w.hold,w.copy,x.clock⟩
def askF (s:Mte×List Pcl) (r:Rn):Mte×List Pcl:=if Ii s.1 r=true then (Ch s.1 r.want,s.2++[aL s.1 r.want]) else s
def asksM (x:Mte):Mte×List Pcl:=x.runs.foldl askF (x,[])
def Jj (x:Mte) (g:Aks):Pcl:=⟨4,x.name,0,[],g.hold,g.copy,g.at_⟩
def dM (x:Mte):Pcl:=⟨6,x.name,x.seen,[],⟨#[]⟩,⟨#[]⟩,0⟩
def Cr (x:Mte):Mte:=if x.known=true then startM (liveM x) else x
def Sl (y:Mte×List Pcl):List Pcl:=(y.2++y.1.gives.map (Jj y.1))++[dM y.1]
def En (x:Mte):Mte×List Pcl:=((asksM (Cr x)).1,Sl (asksM (Cr x)))
def Zu (x:Mte) (n:Int):Mte:={ x with clock:=x.clock+n,runs:=x.runs.map (wdR · (x.clock+n)) }
def Cm (x:Mte) (n:Int):Mte×List Pcl :=
 if mvB x=true then
  (if inR n 1 4=true then
   (if 1000000<x.clock+n then ({ Gt x true with clock:=1000000 },[])
   else if x.up=true then En (Zu x n) else (Zu x n,[]))
  else (x,[]))
 else (Gp,[])
structure TOk (x:Mte):Prop where
 nm:x.name.size≤20
 cl:0≤x.clock∧x.clock≤1000000
 z5:Sy x.wants 20
 z6:Iv x.runs 20
 z7:It x.asks 20
 z8:It x.gives 20
 l5:x.wants.length≤10
 l6:x.runs.length≤20
 l7:x.asks.length≤40
 l8:x.gives.length≤40
 A5:Aw (x.wants.map (·.copy)) x.wants.length=true
 A6:Asc (·.want.copy) x.runs
 A7:Asc (·.hold) x.asks
 A8:Asc (·.hold) x.gives
 ab:∀ a∈x.asks,0≤a.at_∧a.at_≤1000000
 hd:∀ a∈x.asks,¬ a.hold.toList=[]
 wn:∀ a∈x.wants,¬ a.copy.toList=[]
theorem TOk.sz {x:Mte} (h:TOk x):MSz x :=
 ⟨by have:=h.nm;omega,fun a ha=>by have:=h.z5 a ha;omega,fun a ha=>by have:=h.z6 a ha;omega,fun a ha=>by have:=h.z7 a ha;omega,fun a ha=>by have:=h.z8 a ha;omega,by have:=h.l5;omega,by have:=h.l6;omega,by have:=h.l7;omega,by have:=h.l8;omega⟩
theorem Ko {α:Type} (f:α→Nat) (m:Nat):∀ (xs:List α),(∀ x∈xs,f x≤m)→(xs.map f).sum≤xs.length*m
 | [],_=>by simp
 | x::r,h=>by
  have h1:=h x List.mem_cons_self;have h2:=Ko f m r (fun y hy=>h y (List.mem_cons_of_mem _ hy));simp only [List.map_cons,List.sum_cons,List.length_cons,Nat.succ_mul];omega
theorem TOk.w {x:Mte} (h:TOk x):Cy x≤10000:=by
 have e5:=Ko Cx 40 x.wants (fun a ha=>by have:=h.z5 a ha;unfold Cx;omega);have e6:=Ko wRn 40 x.runs (fun a ha=>by have:=h.z6 a ha;unfold wRn;omega);have e7:=Ko Cq 40 x.asks (fun a ha=>by have:=h.z7 a ha;unfold Cq;omega);have e8:=Ko Cq 40 x.gives (fun a ha=>by have:=h.z8 a ha;unfold Cq;omega);have:=h.nm;have:=h.l5;have:=h.l6;have:=h.l7;have:=h.l8;unfold Cy wS;omega
theorem Wo (r:Rn) (u:Bool) (c:Int) (h:(Bd r u c).2=true):(Bd r u c).1.want=r.want:=by
 revert h;unfold Bd
 split
 ·split
  ·intro _;rfl
  ·intro h;cases h
 ·split
  ·intro _;rfl
  ·split
   ·intro _;rfl
   ·split
    ·intro _
     show (if _ then _ else _:Rn).want=_
     split <;> rfl
    ·split
     ·intro h;cases h
     ·split
      ·intro _;exact Se r c
      ·intro _;rfl
theorem Qo {α:Type} {nm:α→BA} {a:α}:∀ {xs:List α},Asc nm xs→xs.any (fun x=>decide (nm x=nm a))=true→Az nm xs a=xs.map (fun z=>if nm z=nm a then a else z)
 | [],_,h=>by cases h
 | y::r,h,hn=>by
  obtain ⟨h1,h2⟩:=List.pairwise_cons.1 h;rw [Hz,Mj,List.map_cons];by_cases e:nm y=nm a
  ·rw [if_neg (by rw [e];simp [Yf]),if_pos e,if_pos e]
   exact congrArg (a::·) (((List.map_congr_left (fun z hz=>if_neg (fun e2=>Ef (h1 z hz) (e.trans e2.symm)))).trans (List.map_id _)).symm)
  ·rw [List.any_cons,decide_eq_false e,Bool.false_or] at hn
   obtain ⟨z,hz,e2⟩:=List.any_eq_true.1 hn;have hlt:(nm y).toList<(nm a).toList:=by rw [← of_decide_eq_true e2];exact h1 z hz
   rw [if_pos (decide_eq_true hlt),if_neg e,Qo h2 hn]
theorem bL {α:Type} {nm:α→BA} {a:α} {xs:List α} (h:Asc nm xs) (hn:xs.any (fun x=>decide (nm x=nm a))=true):(Az nm xs a).length=xs.length:=by
 rw [Qo h hn,List.length_map]
theorem Vl {α:Type} {nm:α→BA} {f:α→α} (hf:∀ z,nm (f z)=nm z) {xs:List α} (h:Asc nm xs):Asc nm (xs.map f) :=
 List.pairwise_map.2 (h.imp (fun {a b} hab=>by rw [hf a,hf b];exact hab))
theorem TOk.ag {x:Mte} (h:TOk x) {qs gs:List Aks} (z7:It qs 20) (z8:It gs 20) (l7:qs.length≤40) (l8:gs.length≤40) (A7:Asc (·.hold) qs) (A8:Asc (·.hold) gs) (ab:∀ a∈qs,0≤a.at_∧a.at_≤1000000) (hd:∀ a∈qs,¬ a.hold.toList=[]):TOk { x with asks:=qs,gives:=gs } :=
 ⟨h.nm,h.cl,h.z5,h.z6,z7,z8,h.l5,h.l6,l7,l8,h.A5,h.A6,A7,A8,ab,hd,h.wn⟩
theorem TOk.rn {x:Mte} (h:TOk x) {rs:List Rn} (z6:Iv rs 20) (l6:rs.length≤20) (A6:Asc (·.want.copy) rs):TOk { x with runs:=rs } :=
 ⟨h.nm,h.cl,h.z5,z6,h.z7,h.z8,h.l5,l6,h.l7,h.l8,h.A5,A6,h.A7,h.A8,h.ab,h.hd,h.wn⟩
theorem Dz {xs:List Aks} {s:BA} {a:Aks} (h:xs.find? (fun a=>decide (a.hold=s))=some a):a∈xs∧a.hold=s:=⟨List.mem_of_find?_eq_some h,by have h2:=List.find?_some h;exact of_decide_eq_true h2⟩
theorem TOk.giveUp {x:Mte} (h:TOk x) (s:BA):TOk (Bh x s):=by
 unfold Bh
 split
 ·exact h
 ·rename_i a ha
  obtain ⟨hm,_⟩:=Dz ha;have hf:∀ b∈x.asks.filter (fun g=>!decide (g.hold=s)),b∈x.asks:=fun b hb=>(List.mem_filter.1 hb).1
  refine h.ag (fun b hb=>h.z7 b (hf b hb)) (fun b hb=>?_) (lT (List.length_filter_le _ _) h.l7) ?_ (List.Pairwise.sublist List.filter_sublist h.A7) ?_ (fun b hb=>h.ab b (hf b hb)) (fun b hb=>h.hd b (hf b hb))
  ·split at hb
   ·rcases Dy hb with rfl | hb
    ·exact h.z7 _ hm
    ·exact h.z8 b hb
   ·exact h.z8 b hb
  ·split
   ·have:=Qw (·.hold) x.gives a
    omega
   ·exact h.l8
  ·split
   ·exact h.A8.put
   ·exact h.A8
theorem TOk.liveStep {x:Mte} (h:TOk x) {lv:Rn→Rn×Bool} (hk:∀ r,(lv r).2=true→(lv r).1.want=r.want) (r:Rn) (hr:r.want.copy.size≤20∧r.want.hold.size≤20):TOk (liveStep lv x r):=by
 unfold Go.Proofs.YtkiloaiffopllaaGreat.liveStep
 split
 ·rename_i c
  refine h.rn (fun z hz=>?_) (by rw [List.length_map];exact h.l6) (Vl (fun z=>?_) h.A6)
  ·obtain ⟨y,hy,rfl⟩:=List.mem_map.1 hz
   split
   ·rw [hk r c];exact hr
   ·exact h.z6 y hy
  ·split
   ·rename_i e
    show (lv r).1.want.copy=z.want.copy
    rw [hk r c,e]
   ·rfl
 ·refine TOk.giveUp (h.rn (fun z hz=>h.z6 z (List.mem_filter.1 hz).1) (lT (List.length_filter_le _ _) h.l6) (List.Pairwise.sublist List.filter_sublist h.A6)) _
theorem TOk.lives {lv:Rn→Rn×Bool} (hk:∀ r,(lv r).2=true→(lv r).1.want=r.want):∀ (rs:List Rn) {x:Mte},TOk x→Iv rs 20→TOk (rs.foldl (Go.Proofs.YtkiloaiffopllaaGreat.liveStep lv) x)
 | [],_,h,_=>h
 | r::rs,_,h,hz=>TOk.lives hk rs (h.liveStep hk r (hz r List.mem_cons_self)) (fun z hm=>hz z (List.mem_cons_of_mem _ hm))
theorem TOk.startStep {x:Mte} (h:TOk x) {w:Wnt} (hw:w∈x.wants):TOk (startStep x w):=by
 have h1:=Xa (x:=x) w h.A6;have h2:=Wt (x:=x) w h.l6;have h3:=h.z5 w hw;unfold Go.Proofs.YtkiloaiffopllaaGreat.startStep at h1 h2 ⊢
 split
 ·rename_i c
  rw [if_pos c] at h1 h2;refine h.rn (fun z hz=>?_) h2 h1;rcases Dy hz with rfl | hz
  ·exact h3
  ·exact h.z6 z hz
 ·exact h
theorem Nn (x:Mte) (w:Wnt):(startStep x w).wants=x.wants∧(startStep x w).clock=x.clock∧(startStep x w).name=x.name:=by
 unfold startStep
 split <;> exact ⟨rfl,rfl,rfl⟩
theorem TOk.starts:∀ (ws:List Wnt) {x:Mte},TOk x→(∀ w∈ws,w∈x.wants)→TOk (ws.foldl Go.Proofs.YtkiloaiffopllaaGreat.startStep x)
 | [],_,h,_=>h
 | w::ws,x,h,hm=>TOk.starts ws (h.startStep (hm w List.mem_cons_self)) (fun v hv=>by rw [(Nn x w).1];exact hm v (List.mem_cons_of_mem _ hv))
theorem TOk.remember {x:Mte} (h:TOk x) {w:Wnt} (hz:w.copy.size≤20∧w.hold.size≤20) (hh:¬ w.hold.toList=[]) (hn:Bz x w=true):TOk (Ch x w):=by
 unfold Ch;refine h.ag (fun b hb=>?_) h.z8 ?_ h.l8 h.A7.put h.A8 (fun b hb=>?_) (fun b hb=>?_)
 ·rcases Dy hb with rfl | hb
  ·exact ⟨hz.2,hz.1⟩
  ·exact h.z7 b hb
 ·cases hf:x.asks.find? (fun a=>decide (a.hold=w.hold)) with
  | none =>
   unfold Bz at hn;rw [hf] at hn;simp only [Bool.and_eq_true,decide_eq_true_eq] at hn;have:=Qw (·.hold) x.asks (Gq x w);omega
  | some a =>
   obtain ⟨hm,e⟩:=Dz hf;rw [bL h.A7 (List.any_eq_true.2 ⟨a,hm,decide_eq_true e⟩)];exact h.l7
 ·rcases Dy hb with rfl | hb
  ·exact h.cl
  ·exact h.ab b hb
 ·rcases Dy hb with rfl | hb
  ·exact hh
  ·exact h.hd b hb
theorem TOk.askF {x:Mte} {ps:List Pcl} (h:TOk x) (r:Rn) (hz:r.want.copy.size≤20∧r.want.hold.size≤20):TOk (askF (x,ps) r).1:=by
 unfold Go.Proofs.YtkiloaiffopllaaGreat.askF
 split
 ·rename_i c
  unfold Ii at c;simp only [Bool.and_eq_true,Bool.not_eq_true'] at c;exact h.remember hz (fun e=>by rw [e] at c;cases c.1) c.2.2
 ·exact h
theorem Oj (s:Mte×List Pcl) (r:Rn):(askF s r).1.wants=s.1.wants∧(askF s r).1.clock=s.1.clock∧(askF s r).1.name=s.1.name∧(askF s r).1.gives=s.1.gives∧(askF s r).1.runs=s.1.runs∧(askF s r).1.seen=s.1.seen:=by
 unfold askF
 split <;> exact ⟨rfl,rfl,rfl,rfl,rfl,rfl⟩
theorem Qu (x:Mte) (s:BA):(Bh x s).wants=x.wants∧(Bh x s).clock=x.clock∧(Bh x s).name=x.name:=by
 unfold Bh
 split <;> exact ⟨rfl,rfl,rfl⟩
theorem Wi (lv:Rn→Rn×Bool) (x:Mte) (r:Rn):(liveStep lv x r).wants=x.wants∧(liveStep lv x r).clock=x.clock∧(liveStep lv x r).name=x.name:=by
 unfold liveStep
 split
 ·exact ⟨rfl,rfl,rfl⟩
 ·exact Qu _ _
def PSm (n:Nat) (ps:List Pcl):Prop:=ps.length≤n∧∀ q∈ps,q.wants=[]∧q.berth.size≤20∧q.hold.size≤20∧q.copy.size≤20
theorem PSm.snoc {n:Nat} {ps:List Pcl} (h:PSm n ps) {q:Pcl} (h1:q.wants=[]) (h2:q.berth.size≤20) (h3:q.hold.size≤20) (h4:q.copy.size≤20):PSm (n+1) (ps++[q]) :=
 ⟨by rw [List.length_append];have:=h.1;simp;omega,fun z hz=>by rcases List.mem_append.1 hz with hz | hz;exact h.2 z hz;rw [List.mem_singleton.1 hz];exact ⟨h1,h2,h3,h4⟩⟩
theorem PSm.w {ps:List Pcl} (h:PSm 100 ps):wS Rv ps≤10000:=by
 have e:=Ko Rv 60 ps (fun q hq=>by obtain ⟨h1,h2,h3,h4⟩:=h.2 q hq;unfold Rv wS;rw [h1];simp;omega);have:=h.1;unfold wS;omega
end Go.Proofs.YtkiloaiffopllaaGreat
