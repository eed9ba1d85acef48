import Derived.Test.YtpeajnkkdioflaaGreatJ30
import Derived.WalkSmall
set_option maxHeartbeats 8000000
set_option maxRecDepth 100000
namespace Go.Proofs.YtpeajnkkdioflaaGreat
open Go.RowKit
def KidsIn (w:World) (go:Nat) (out:List (List Nat)):Prop :=
 go<w.heap.size∧∀ (j:Nat) (ks:List Nat),out[j]?=some ks→∃ a c,w.cell? ⟨go,j,none⟩=some (.slice a ks.length c) ∧
  (ks=[]∨∃ g,a=some ⟨g,0,none⟩∧g<w.heap.size∧∀ i v,ks[i]?=some v→w.cell? ⟨g,i,none⟩=some (.int .i64 ((v:Nat):Int)))
theorem KidsIn.grown {w w':World} {go:Nat} {out:List (List Nat)} (h:KidsIn w go out) (hb:Below w.heap.size w w'):KidsIn w' go out:=by
 refine ⟨Nat.lt_of_lt_of_le h.1 hb.size,?_⟩;intro j ks hj;obtain ⟨a,c,h1,h2⟩:=h.2 j ks hj;refine ⟨a,c,(hb.cell (p:=⟨go,j,none⟩) h.1).trans h1,?_⟩;rcases h2 with h2 | ⟨g,e,hg,h2⟩
 ·exact .inl h2
 ·exact .inr ⟨g,e,Nat.lt_of_lt_of_le hg hb.size,fun i v hi=>(hb.cell (p:=⟨g,i,none⟩) hg).trans (h2 i v hi)⟩
theorem Ob {w:World} {go k:Nat} {out:List (List Nat)} (h:KidsIn w go out) (hk:out[k]?=some []):∃ a c,w.cell? ⟨go,k,none⟩=some (.slice a 0 c):=by
 obtain ⟨a,c,h1,_⟩:=h.2 k [] hk;exact ⟨a,c,h1⟩
theorem eA {w:World} {go k a:Nat} {out:List (List Nat)} (h:KidsIn w go out) (hk:out[k]?=some [a]):∃ g c,w.cell? ⟨go,k,none⟩=some (.slice (some ⟨g,0,none⟩) 1 c)∧w.cell? ⟨g,0,none⟩=some (.int .i64 (a:Int)):=by
 obtain ⟨x,c,h1,h2⟩:=h.2 k [a] hk;rcases h2 with h2 | ⟨g,rfl,_,h2⟩
 ·cases h2
 ·exact ⟨g,c,h1,h2 0 a rfl⟩
theorem Uh {w:World} {go k a b:Nat} {out:List (List Nat)} (h:KidsIn w go out) (hk:out[k]?=some [a,b]):∃ g c,w.cell? ⟨go,k,none⟩=some (.slice (some ⟨g,0,none⟩) 2 c)∧w.cell? ⟨g,0,none⟩=some (.int .i64 (a:Int))∧w.cell? ⟨g,1,none⟩=some (.int .i64 (b:Int)):=by
 obtain ⟨x,c,h1,h2⟩:=h.2 k [a,b] hk;rcases h2 with h2 | ⟨g,rfl,_,h2⟩
 ·cases h2
 ·exact ⟨g,c,h1,h2 0 a rfl,h2 1 b rfl⟩
theorem Lz {out:List (List Nat)} {k n:Nat} {l:List Nat} (hl:out.length=n) (h:out[k]?=some l):k<n:=by
 have:=P.getElem?_lt h;omega
theorem eE (ns:List P.Nd) (out:List (List Nat)) (n co go:Nat) (hol:out.length=n):∀ (t:P.Tr) (k:Nat),P.IsT ns out k t→P.count t≤400→∀ (w:World),KidsIn w go out →
  Calls Tryz.prog 145 #[.slice (some ⟨go,0,none⟩) n co,.int .i64 (k:Int)] w fun e w'=>e=.returned (.int .i64 (P.tall t:Int))∧w'=w:=by
 intro t0 k0 h0;refine P.isT_ind (ns:=ns) (out:=out) (p:=fun k t=>P.count t≤400→∀ (w:World),KidsIn w go out→Calls Tryz.prog 145 #[.slice (some ⟨go,0,none⟩) n co,.int .i64 (k:Int)] w fun e w'=>e=.returned (.int .i64 (P.tall t:Int))∧w'=w) ?_ ?_ ?_ ?_ ?_ ?_ t0 k0 h0
 ·intro k nd hnd hk hout hct w hK
  obtain ⟨a,c,c0⟩:=Ob hK hout;have hkl:=Lz hol hout;clear hK hout;go_enter Tryz.func145,Tryz.ntmps145;go_wp2_with fail;refine wp_loop_rounds 1 ?_;rw [rounds_succ];go_wp2_with fail;go_ret;exact ⟨rfl,rfl⟩
 ·intro k nd hnd hk hout hct w hK
  obtain ⟨a,c,c0⟩:=Ob hK hout;have hkl:=Lz hol hout;clear hK hout;go_enter Tryz.func145,Tryz.ntmps145;go_wp2_with fail;refine wp_loop_rounds 1 ?_;rw [rounds_succ];go_wp2_with fail;go_ret;exact ⟨rfl,rfl⟩
 ·intro k nd hnd hk hout hct w hK
  obtain ⟨a,c,c0⟩:=Ob hK hout;have hkl:=Lz hol hout;clear hK hout;go_enter Tryz.func145,Tryz.ntmps145;go_wp2_with fail;refine wp_loop_rounds 1 ?_;rw [rounds_succ];go_wp2_with fail;go_ret;exact ⟨rfl,rfl⟩
 ·intro k nd a t hnd hk hout hak hT ih hct w hK
  rw [P.count_nt] at hct;obtain ⟨g,c,c0,c1⟩:=eA hK hout;have hkl:=Lz hol hout;have htl:P.tall t≤400:=Nat.le_trans (P.tall_le_count t) (by omega);have IH:Hid (∀ (w:World),KidsIn w go out→Calls Tryz.prog 145 #[.slice (some ⟨go,0,none⟩) n co,.int .i64 (a:Int)] w fun e w'=>e=.returned (.int .i64 (P.tall t:Int))∧w'=w):=ih (by omega);have HK:Hid (KidsIn w go out):=hK;rw [P.tall_nt];clear ih hK hout hnd hk;go_enter Tryz.func145,Tryz.ntmps145;go_wp2_with fail;refine wp_loop_rounds 2 ?_;rw [rounds_succ];go_wp2_with fail;refine (IH.out _ HK.out).mono ?_;rintro e w' ⟨rfl,rfl⟩;go_wp2_with fail;rw [rounds_succ];go_wp2_with fail;go_ret;exact ⟨Av (by omega),rfl⟩
 ·intro k nd a b t u hnd hk hout hak hbk hT hU iht ihu hct w hK
  rw [P.count_an] at hct;obtain ⟨g,c,c0,c1,c2⟩:=Uh hK hout;have hkl:=Lz hol hout;have htl:P.tall t≤400:=Nat.le_trans (P.tall_le_count t) (by omega);have hul:P.tall u≤400:=Nat.le_trans (P.tall_le_count u) (by omega);have IH:Hid (∀ (w:World),KidsIn w go out→Calls Tryz.prog 145 #[.slice (some ⟨go,0,none⟩) n co,.int .i64 (a:Int)] w fun e w'=>e=.returned (.int .i64 (P.tall t:Int))∧w'=w):=iht (by omega);have IH2:Hid (∀ (w:World),KidsIn w go out→Calls Tryz.prog 145 #[.slice (some ⟨go,0,none⟩) n co,.int .i64 (b:Int)] w fun e w'=>e=.returned (.int .i64 (P.tall u:Int))∧w'=w):=ihu (by omega);have HK:Hid (KidsIn w go out):=hK;rw [P.tall_an];clear iht ihu hK hout hnd hk;by_cases hlt:P.tall t<P.tall u
  all_goals
   go_enter Tryz.func145,Tryz.ntmps145;go_wp2_with fail;refine wp_loop_rounds 3 ?_;rw [rounds_succ];go_wp2_with fail;refine (IH.out _ HK.out).mono ?_;rintro e w' ⟨rfl,rfl⟩;go_wp2_with fail;rw [rounds_succ];go_wp2_with fail;refine (IH2.out _ HK.out).mono ?_;rintro e w' ⟨rfl,rfl⟩;go_wp2_with fail;rw [rounds_succ];go_wp2_with fail;go_ret;exact ⟨Av (by simp only [Nat.max_def];split <;> omega),rfl⟩
 ·intro k nd a b t u hnd hk hout hak hbk hT hU iht ihu hct w hK
  rw [P.count_or] at hct;obtain ⟨g,c,c0,c1,c2⟩:=Uh hK hout;have hkl:=Lz hol hout;have htl:P.tall t≤400:=Nat.le_trans (P.tall_le_count t) (by omega);have hul:P.tall u≤400:=Nat.le_trans (P.tall_le_count u) (by omega);have IH:Hid (∀ (w:World),KidsIn w go out→Calls Tryz.prog 145 #[.slice (some ⟨go,0,none⟩) n co,.int .i64 (a:Int)] w fun e w'=>e=.returned (.int .i64 (P.tall t:Int))∧w'=w):=iht (by omega);have IH2:Hid (∀ (w:World),KidsIn w go out→Calls Tryz.prog 145 #[.slice (some ⟨go,0,none⟩) n co,.int .i64 (b:Int)] w fun e w'=>e=.returned (.int .i64 (P.tall u:Int))∧w'=w):=ihu (by omega);have HK:Hid (KidsIn w go out):=hK;rw [P.tall_or];clear iht ihu hK hout hnd hk;by_cases hlt:P.tall t<P.tall u
  all_goals
   go_enter Tryz.func145,Tryz.ntmps145;go_wp2_with fail;refine wp_loop_rounds 3 ?_;rw [rounds_succ];go_wp2_with fail;refine (IH.out _ HK.out).mono ?_;rintro e w' ⟨rfl,rfl⟩;go_wp2_with fail;rw [rounds_succ];go_wp2_with fail;refine (IH2.out _ HK.out).mono ?_;rintro e w' ⟨rfl,rfl⟩;go_wp2_with fail;rw [rounds_succ];go_wp2_with fail;go_ret;exact ⟨Av (by simp only [Nat.max_def];split <;> omega),rfl⟩
theorem fK:(Tryz.prog.info? 3).map (fun i=>(i.zero,i.size,i.bytes))=some (some (.int .i64 0),1,8):=by kernel_rfl
theorem bI:(Tryz.prog.info? 223).map (fun i=>(i.zero,i.size,i.bytes))=some (some (.slice none 0 0),1,24):=by kernel_rfl
def Il (l:List Nat):List Value:=l.map fun (a:Nat)=>Value.int .i64 (a:Int)
def kB (w:World) (gs:Nat) (a:Option Addr) (ks:List Nat):Prop :=
 ks=[]∨∃ gk cur,a=some ⟨gk,0,none⟩∧w.heap[gk]?=some (.cells cur 3 (0,0))∧gk≠gs∧∀ (i v:Nat),ks[i]?=some v→cur[i]?=some (Value.int .i64 (v:Int))
def Lf (w:World) (gs:Nat) (xs:List Value) (out:List (List Nat)):Prop :=
 xs.length=out.length∧∀ (j:Nat) (ks:List Nat),out[j]?=some ks→∃ a c,xs[j]?=some (.slice a ks.length c)∧kB w gs a ks
theorem Fb {w:World} {b:Nat} {o:Obj} (h:w.heap[b]?=some o):b<w.heap.size:=(Array.getElem?_eq_some_iff.1 h).1
theorem cD {wr w1 w2 w3:World} {E o2 o3:Obj} {B gs gs' go c:Nat} {v1:Value} {xs:List Value} {out:List (List Nat)} {news:List Nat} {cgo:Array Value} {fz:Nat×Nat}
  (hfam:Lf wr gs xs out) (hg1:(wr.alloc E).grownBy w1 (some wr.heap.size)) (hown1:w1.ownsRow B 3 1 v1 c (Il news)) (hc:news.length=c)
  (hat1:v1.ownBlock=some wr.heap.size∨v1.ownBlock=some (wr.alloc E).heap.size) (hg2:(w1.alloc o2).grownBy w2 (some go)) (hgo:wr.heap[go]?=some (.cells cgo 223 fz))
  (hg3:(w2.alloc o3).grownBy w3 (some gs)) (hgs:gs<wr.heap.size) (hat3:gs'=gs∨gs'=(w2.alloc o3).heap.size):Lf w3 gs' (xs++[v1]) (out++[news]):=by
 have z0:(wr.alloc E).heap.size=wr.heap.size+1:=by simp
 have z1:=hg1.size;have z2:=hg2.size;have z3:=hg3.size;have y1:(w1.alloc o2).heap.size=w1.heap.size+1:=by simp
 have y2:(w2.alloc o3).heap.size=w2.heap.size+1:=by simp
 have hgol:=Fb hgo;have old:∀ gk x,wr.heap[gk]?=some x→gk≠go→gk≠gs→w3.heap[gk]?=some x:=by
  intro gk x hx n1 n2;have hl:=Fb hx;have e1:w1.heap[gk]?=some x:=by
   rw [hg1.block gk (by omega) (fun e=>by have:=Option.some.inj e;omega),Below.heap_alloc wr E gk hl];exact hx
  have e2:w2.heap[gk]?=some x:=by
   rw [hg2.block gk (by omega) (fun e=>n1 (Option.some.inj e)),Below.heap_alloc w1 o2 gk (by omega)];exact e1
  rw [hg3.block gk (by omega) (fun e=>n2 (Option.some.inj e)),Below.heap_alloc w2 o3 gk (by omega)];exact e2
 refine ⟨by simp [hfam.1],?_⟩;intro j ks hj;by_cases hjl:j<out.length
 ·rw [List.getElem?_append_left hjl] at hj
  obtain ⟨a,c',h1,h2⟩:=hfam.2 j ks hj;refine ⟨a,c',by rw [List.getElem?_append_left (by rw [hfam.1];exact hjl)];exact h1,?_⟩;rcases h2 with h2 | ⟨gk,cur,e,hh,hne,hv⟩
  ·exact .inl h2
  ·have hkl:=Fb hh
   refine .inr ⟨gk,cur,e,old gk _ hh ?_ hne,?_,hv⟩
   ·intro e'
    rw [e'] at hh;rw [hgo] at hh;simp at hh
   ·rcases hat3 with h | h <;> omega
 ·have hje:j=out.length:=by have:=P.getElem?_lt hj;simp at this;omega
  subst hje;rw [List.getElem?_append_right nL] at hj;simp at hj;subst hj;obtain ⟨a1,c1,hv1⟩:∃ a c',v1=.slice a news.length c':=by
   rcases hown1.2 with ⟨h,hz⟩ | ⟨gg,cap,cur,h,_⟩
   ·exact ⟨none,0,by rw [h];rw [hc,hz]⟩
   ·exact ⟨_,_,by rw [h,hc]⟩
  refine ⟨a1,c1,?_,?_⟩
  ·rw [← hfam.1,List.getElem?_append_right nL];simp [hv1]
  ·rcases hown1.2 with ⟨h,hz⟩ | ⟨gg,cap,cur,h,hB,hh,_,_,_,htake⟩
   ·exact .inl (List.eq_nil_of_length_eq_zero (by omega))
   ·rw [hv1] at h
    simp only [Value.slice.injEq] at h;obtain ⟨rfl,_,rfl⟩:=h;have hgg:gg=wr.heap.size∨gg=wr.heap.size+1:=by
     rw [hv1] at hat1;simp only [Value.ownBlock,Option.some.injEq,z0] at hat1;exact hat1
    have hl1:=Fb hh;have e2:w2.heap[gg]?=some (.cells cur 3 (0,0)):=by
     rw [hg2.block gg (by omega) (fun e=>by have:=Option.some.inj e;omega),Below.heap_alloc w1 o2 gg hl1];exact hh
    have e3:w3.heap[gg]?=some (.cells cur 3 (0,0)):=by
     rw [hg3.block gg (by omega) (fun e=>by have:=Option.some.inj e;omega),Below.heap_alloc w2 o3 gg (by omega)];exact e2
    refine .inr ⟨gg,cur,rfl,e3,by omega,?_⟩;intro i v hi;have hil:=P.getElem?_lt hi;have:=congrArg (fun l=>l[i]?) htake;simp only [Il,List.getElem?_map,hi,Option.map_some] at this;rw [List.getElem?_take_of_lt (by omega)] at this;simpa using this
theorem Ql {w:World} {gs go B n co:Nat} {xs:List Value} {out:List (List Nat)} (hfam:Lf w gs xs out) (hown:w.ownsRow B 223 1 (.slice (some ⟨go,0,none⟩) n co) n xs):KidsIn w go out:=by
 refine ⟨(hown.lt go rfl).2,?_⟩;intro j ks hj;obtain ⟨a,c,h1,h2⟩:=hfam.2 j ks hj;have hjl:=P.getElem?_lt h1;have hxl:xs.length=n*1:=hown.1;refine ⟨a,c,(hown.cellAt j (by omega)).trans h1,?_⟩;rcases h2 with h2 | ⟨gk,cur,e,hh,_,hv⟩
 ·exact .inl h2
 ·refine .inr ⟨gk,e,Fb hh,?_⟩
  intro i v hi;rw [cell_of_row w gk i cur _ _ hh];exact hv i v hi
theorem Ir:∀ (a b:List P.Nd) (i:Nat) (out:List (List Nat)) (st:List Nat),P.runK (a++b) i out st=(P.runK a i out st).bind fun p=>P.runK b (i+a.length) p.1 p.2
 | [],b,i,out,st=>rfl
 | n::a,b,i,out,st=>by
  rw [List.cons_append,P.runK,P.runK]
  cases P.stepK i n.kids st with
  | none=>rfl
  | some p =>
   obtain ⟨ks,st'⟩:=p;simp only;rw [Ir a b (i+1) (out++[ks]) st',show i+1+a.length=i+(n::a).length by simp only [List.length_cons];omega]
theorem Rh {ns:List P.Nd} {k:Nat} {n:P.Nd} {out:List (List Nat)} {st:List Nat} (h:P.runK (ns.take k) 0 [] []=some (out,st)) (hn:ns[k]?=some n) :
  P.runK (ns.take (k+1)) 0 [] []=(match P.stepK k n.kids st with | none=>none | some (ks,st')=>some (out++[ks],st')):=by
 have hl:=P.getElem?_lt hn;have e:ns.take (k+1)=ns.take k++[n]:=by rw [List.take_add_one,hn];rfl
 have e2:0+(ns.take k).length=k:=by simp;omega
 rw [e,Ir,h];simp only [Option.bind_some,e2];unfold P.runK
 cases P.stepK k n.kids st with
 | none=>rfl
 | some p=>rfl
theorem Mz {ns:List P.Nd} {k:Nat} {n:P.Nd} {out:List (List Nat)} {st:List Nat} (h:P.runK (ns.take k) 0 [] []=some (out,st)) (hn:ns[k]?=some n) (hs:P.stepK k n.kids st=none):P.kidsOf ns=none:=by
 have e:ns=ns.take (k+1)++ns.drop (k+1):=(List.take_append_drop _ _).symm;unfold P.kidsOf;rw [e,Ir,Rh h hn,hs];rfl
theorem iQ {l:List Nat} {c:Nat} (h:l.length=c) (h0:c=0) (ad:Addr) (w:World):∀ j u,(Il l)[j]?=some u→w.cell? (ad.add j)=some u:=by
 intro j u hj;have:=P.getElem?_lt hj;simp [Il] at this;omega
theorem bO (a:Option Addr) (n c:Nat):∀ u∈[Value.slice a n c],u.oneCell'=true:=by
 intro u hu;simp at hu;subst hu;rfl
theorem gN (k:Int):∀ u∈[Value.int .i64 k],u.oneCell'=true:=by
 intro u hu;simp at hu;subst hu;rfl
theorem Vk {w:World} {B n:Nat} {e:TypeId} {v:Value} {xs:List Value} (h:w.ownsRow B e 1 v n xs) (hn:0<n):∃ g cap,v=.slice (some ⟨g,0,none⟩) n cap:=by
 rcases h.2 with ⟨rfl,rfl⟩ | ⟨g,cap,cur,rfl,_⟩
 ·omega
 ·exact ⟨_,_,rfl⟩
theorem Qq {w:World} {B n gs cs go:Nat} {xs:List Value} {cgo:Array Value} {fz:Nat×Nat} (h:w.ownsRow B 3 1 (.slice (some ⟨gs,0,none⟩) n cs) n xs) (hgo:w.heap[go]?=some (.cells cgo 223 fz)):gs≠go:=by
 intro e;rcases h.2 with ⟨h',_⟩ | ⟨g',_,cur,h',_,hh,_⟩
 ·simp at h'
 ·simp at h'
  obtain ⟨rfl,_⟩:=h';rw [e,hgo] at hh;simp at hh
theorem lC {w:World} {B n go co:Nat} {e:TypeId} {xs:List Value} (h:w.ownsRow B e 1 (.slice (some ⟨go,0,none⟩) n co) n xs):∃ cgo,w.heap[go]?=some (.cells cgo e (0,0)):=by
 rcases h.2 with ⟨h',_⟩ | ⟨g',_,cur,h',_,hh,_⟩
 ·simp at h'
 ·simp at h'
  obtain ⟨rfl,_⟩:=h';exact ⟨cur,hh⟩
theorem Xl {wr w1:World} {B k co m cs go gs:Nat} {xs ys:List Value} {E:Obj} {row:Option Nat} (hO:wr.ownsRow B 223 1 (.slice (some ⟨go,0,none⟩) k co) k xs) (hS:wr.ownsRow B 3 1 (.slice (some ⟨gs,0,none⟩) m cs) m ys)
  (hg:(wr.alloc E).grownBy w1 row) (hr:row=some wr.heap.size:=by rfl):w1.ownsRow B 223 1 (.slice (some ⟨go,0,none⟩) k co) k xs∧w1.ownsRow B 3 1 (.slice (some ⟨gs,0,none⟩) m cs) m ys∧wr.heap.size+1≤w1.heap.size∧B≤w1.heap.size:=by
 subst hr;have h1:=(hO.lt go rfl);have h2:=(hS.lt gs rfl);have hz:=hg.size;simp at hz;refine ⟨(hO.alloc E).kept hg (.inr ?_),(hS.alloc E).kept hg (.inr ?_),hz,by omega⟩
 ·simp only [Value.ownBlock]
  intro e;have:=Option.some.inj e;omega
 ·simp only [Value.ownBlock]
  intro e;have:=Option.some.inj e;omega
theorem Vj {w1 w2:World} {B m cs go gs:Nat} {ys:List Value} {o:Obj} {row:Option Nat} (hS:w1.ownsRow B 3 1 (.slice (some ⟨gs,0,none⟩) m cs) m ys) (hne:gs≠go)
  (hg:(w1.alloc o).grownBy w2 row) (hr:row=some go:=by rfl):w2.ownsRow B 3 1 (.slice (some ⟨gs,0,none⟩) m cs) m ys∧w1.heap.size+1≤w2.heap.size:=by
 subst hr;have hz:=hg.size;simp at hz;refine ⟨(hS.alloc o).kept hg (.inr ?_),hz⟩;simp only [Value.ownBlock];intro e;exact hne (Option.some.inj e)
def iB (ns:List P.Nd) (w:World) (e:Ending) (w':World):Prop :=
 Below w.heap.size w w'∧match P.kidsOf ns with
 | none=>∃ v,e=.returned (.tuple #[v,.bool false])
 | some (out,st)=>∃ go co,e=.returned (.tuple #[.slice (some ⟨go,0,none⟩) ns.length co,.bool (decide (st.length=1))])∧KidsIn w' go out∧out.length=ns.length
theorem Uq (ns:List P.Nd) (g cn:Nat) (w:World) (hN:Nodes0 w g ns) (hlen:ns.length≤400) :
  Calls Tryz.prog 144 #[.agg #[.slice (some ⟨g,0,none⟩) ns.length cn]] w fun e w'=>iB ns w e w':=by
 obtain ⟨i3,hi3,y0,y1,y2⟩:=info_parts fK;obtain ⟨i6,hi6,z0,z1,z2⟩:=info_parts bI;have HN:Hid (Nodes0 w g ns):=hN;clear hN;go_enter Tryz.func144,Tryz.ntmps144;go_wp2_with fail;generalize hW0:w.alloc (.cells #[.slice (some ⟨g,0,none⟩) ns.length cn] 154)=W0;have hz0:W0.heap.size=w.heap.size+1:=by rw [← hW0];simp
 have hB0:Below w.heap.size w W0:=by rw [← hW0];exact (Below.refl _ _).alloc nL _
 have hc0:W0.cell? ⟨w.heap.size,0,none⟩=some (.slice (some ⟨g,0,none⟩) ns.length cn):=by rw [← hW0];simp
 have HN0:Hid (Nodes0 W0 g ns):=HN.out.grown hB0;clear hW0
 go_loopw [4,5,6] (fun vo vs i wr=>∃ (k m gs cs go co:Nat) (out:List (List Nat)) (st:List Nat) (xs:List Value),k≤ns.length∧i=.int .i64 k∧m≤k∧vo=.slice (some ⟨go,0,none⟩) k co∧vs=.slice (some ⟨gs,0,none⟩) m cs ∧
   Hid (P.runK (ns.take k) 0 [] []=some (out,st)∧out.length=k∧st.length=m)∧wr.ownsRow W0.heap.size 223 1 vo k xs∧wr.ownsRow W0.heap.size 3 1 vs m (Il st)∧Lf wr gs xs out∧Below W0.heap.size W0 wr) (fun _ _ i _=>ns.length - (intOf i).toNat)
 case atStart =>
  refine ⟨0,0,_,0,_,0,[],[],[],Nat.zero_le _,rfl,Nat.le_refl _,rfl,rfl,⟨by rw [List.take_zero];rfl,rfl,rfl⟩,?_,?_,⟨rfl,fun j ks h=>by simp at h⟩,?_⟩
  ·have h1:=World.ownsRow_made (base:=W0.heap.size) (e:=223) (size:=1) W0 #[] 0 nL (Nat.zero_le _) rfl
   have h2:=h1.alloc (.cells #[] 3);rw [hz0] at h2 ⊢;exact h2
  ·have h1:=World.ownsRow_made (base:=W0.heap.size) (e:=3) (size:=1) (W0.alloc (.cells #[] 223)) #[] 0 (by simp) (Nat.zero_le _) rfl
   simp only [World.size_alloc,hz0] at h1 ⊢;exact h1
  ·exact ((Below.refl _ _).alloc nL _).alloc (by simp) _
 case round =>
  obtain ⟨k,m,gs,cs,go,co,out,st,xs,hk,rfl,hmk,rfl,rfl,hrun,hown,hsown,hfam,hbel⟩:=hrel;have cx:wr.cell? ⟨w.heap.size,0,none⟩=some (.slice (some ⟨g,0,none⟩) ns.length cn):=(hbel.cell (p:=⟨w.heap.size,0,none⟩) (by show w.heap.size<W0.heap.size;omega)).trans hc0;have HO:Hid (wr.ownsRow W0.heap.size 223 1 (.slice (some ⟨go,0,none⟩) k co) k xs):=hown;have HSO:Hid (wr.ownsRow W0.heap.size 3 1 (.slice (some ⟨gs,0,none⟩) m cs) m (Il st)):=hsown;have HF:Hid (Lf wr gs xs out):=hfam;have hcs:m≤cs:=by
   rcases hsown.2 with ⟨h,_⟩ | ⟨_,_,_,h,_,_,h4,_⟩
   ·simp at h
   ·simp at h;omega
  clear hown hsown hfam;by_cases hlt:k<ns.length
  ·obtain ⟨n,hn⟩:∃ n,ns[k]?=some n:=⟨ns[k],List.getElem?_eq_getElem hlt⟩
   obtain ⟨_,_,_,r3⟩:=(HN0.out.grown hbel).2 k n hn;have HK:Hid (ns[k]?=some n):=hn;have hml:=hrun.out.2.2;clear hn;rcases (show n.kids<0∨(m:Int)<n.kids∨(0≤n.kids∧n.kids≤m) by omega) with hneg | hpos | ⟨hin1,hin2⟩
   ·have HE:Hid (P.kidsOf ns=none):=Mz hrun.out.1 HK.out (by unfold P.stepK;rw [if_pos (.inl hneg)])
    clear hml;go_wp2_with fail
    go_ret2
    refine ⟨hB0.trans (hbel.mono (by omega)),?_⟩;rw [HE.out];exact ⟨_,rfl⟩
   ·have HE:Hid (P.kidsOf ns=none):=Mz hrun.out.1 HK.out (by unfold P.stepK;rw [if_pos (.inr (by rw [hml];exact hpos))])
    clear hml;go_wp2_with fail
    go_ret2
    refine ⟨hB0.trans (hbel.mono (by omega)),?_⟩;rw [HE.out];exact ⟨_,rfl⟩
   ·obtain ⟨c,hc⟩:=Int.eq_ofNat_of_zero_le hin1
    obtain ⟨r,rfl⟩:∃ r,m=r+c:=⟨m - c,by omega⟩;have HR:Hid (P.runK (ns.take (k+1)) 0 [] []=some (out++[st.drop r],st.take r++[k])):=by
     show _=_
     rw [Rh hrun.out.1 HK.out];unfold P.stepK;rw [if_neg (by rw [hml];omega)];have:st.length - n.kids.toNat=r:=by omega
     rw [this]
    have hdl:(st.drop r).length=c:=by rw [List.length_drop,hml];omega
    have HDL:Hid ((st.drop r).length=c):=hdl;have hgsl:=(HSO.out.lt gs rfl).2;obtain ⟨cgo,hgo⟩:∃ cgo,wr.heap[go]?=some (.cells cgo 223 (0,0)):=by
     rcases HO.out.2 with ⟨h,_⟩ | ⟨g',_,cur,h,_,hh,_⟩
     ·simp at h
     ·simp at h
      obtain ⟨rfl,_⟩:=h;exact ⟨cur,hh⟩
    have HGO:Hid (wr.heap[go]?=some (.cells cgo 223 (0,0))):=hgo;have newsA:∀ j u,(Il (st.drop r))[j]?=some u→(wr.alloc (.cells #[] 3)).cell? ((⟨gs,r,none⟩:Addr).add j)=some u:=by
     intro j u hj;have hjl:=P.getElem?_lt hj;have h:=(HSO.out.alloc (.cells #[] 3)).cellAt (r+j) (by simp [Il] at hjl;omega);have ea:((⟨gs,r,none⟩:Addr).add j)=⟨gs,r+j,none⟩:=by cases j <;> simp [Addr.add]
     rw [ea,h];simp only [Il,List.getElem?_map,List.getElem?_drop] at hj ⊢;exact hj
    have NA:Hid (∀ j u,(Il (st.drop r))[j]?=some u→(wr.alloc (.cells #[] 3)).cell? ((⟨gs,r,none⟩:Addr).add j)=some u):=newsA;have ON:Hid (∀ u∈Il (st.drop r),u.oneCell'=true):=by
     intro u hu;simp only [Il,List.mem_map] at hu;obtain ⟨x,_,rfl⟩:=hu;rfl
    have hbs:=hbel.size;rw [hc] at r3;have j0:(0:Int)≤(r:Int):=by omega
    have j1:(r:Int)≤(r:Int)+(c:Int):=by omega
    have j2:(r:Int)+(c:Int)≤(cs:Int):=by omega
    clear hin1 hin2 hc hml hdl newsA hgo;rcases (show ¬ c=0∨(c=0∧r=cs)∨(c=0∧¬ cs=r) by omega) with c0 | ⟨c0,hcr⟩ | ⟨c0,hcr⟩
    all_goals first
     | (have HC0:Hid (c=0):=c0
        clear c0
        try (subst hcr;clear hcs j2))
     | (have HC0:Hid True:=trivial
        have hcr:¬ cs=r:=by omega)
    all_goals
     have hgne:gs≠go:=Qq HSO.out HGO.out;have hgol:=Fb HGO.out
     go_wp2_with (first
      | (at_builtin;refine wpList_append_own_at _ rfl (.tmp 33) (.tmp 39) 223 rfl W0.heap.size 3 i3 (.int .i64 0) 1 8 Tryz.underlying223 hi3 y0 y1 y2 rfl (by decide) _ 0 [] rfl (World.ownsRow_made (base:=W0.heap.size) (e:=3) (size:=1) wr #[] 0 hbs (Nat.zero_le _) rfl) _ c _ (Il (st.drop r)) rfl (by simp only [Il,List.length_map,Nat.mul_one];exact HDL.out) (by first | exact NA.out | exact iQ HDL.out HC0.out _ _) ON.out (by unfold maxLen;omega) (by omega) (by simp;omega) ?_;intro v1 w1 hown1 hg1 _ hat1;simp only [Nat.zero_add,List.nil_append] at hown1;obtain ⟨a1,c1,hv1⟩:=aV hown1;rw [hv1];obtain ⟨hO1,hS1,hs1,hz1⟩:=Xl HO.out HSO.out hg1)
      | (at_builtin;refine wpList_append_own_at _ rfl (.tmp 32) (.tmp 41) 208 rfl W0.heap.size 223 i6 (.slice none 0 0) 1 24 Tryz.underlying208 hi6 z0 z1 z2 rfl (by decide) _ k xs rfl (hO1.alloc _) ⟨w1.heap.size,0,none⟩ 1 1 [.slice a1 c c1] rfl rfl (Qu _ _ _) (bO _ _ _) (by unfold maxLen;omega) (by omega) (by simp;omega) ?_;intro vo2 w2 hown2 hg2 _ _;obtain ⟨go2,co2,hv2⟩:=Vk hown2 (by omega);rw [hv2];obtain ⟨hS2,hs2⟩:=Vj hS1 hgne hg2)
      | (at_builtin;refine wpList_append_own_at _ rfl (.tmp 48) (.tmp 50) 223 rfl W0.heap.size 3 i3 (.int .i64 0) 1 8 Tryz.underlying223 hi3 y0 y1 y2 rfl (by decide) _ r _ rfl ((Va hS2 r (Nat.le_add_right _ _)).alloc _) ⟨w2.heap.size,0,none⟩ 1 1 [.int .i64 (k:Int)] rfl rfl (Qu _ _ _) (gN _) (by unfold maxLen;omega) (by omega) (by simp;omega) ?_;intro vs3 w3 hown3 hg3 _ hat3;obtain ⟨gs3,cs3,hv3⟩:=Vk hown3 (by omega);rw [hv3]))
     go_roundw
     case rel =>
      have g1:(wr.alloc (.cells #[] 3)).grownBy w1 (some wr.heap.size):=hg1;have t1:v1.ownBlock=some wr.heap.size∨v1.ownBlock=some (wr.alloc (.cells #[] 3)).heap.size:=hat1;have g2:(w1.alloc (.cells #[.slice a1 c c1] 223)).grownBy w2 (some go):=hg2;have g3:(w2.alloc (.cells #[.int .i64 (k:Int)] 3)).grownBy w3 (some gs):=hg3;have t3:vs3.ownBlock=some gs∨vs3.ownBlock=some (w2.alloc (.cells #[.int .i64 (k:Int)] 3)).heap.size:=hat3;rw [hv3] at t3;simp only [Value.ownBlock,Option.some.injEq] at t3;have fam:=cD HF.out g1 hown1 HDL.out t1 g2 HGO.out g3 hgsl t3;rw [hv1] at fam;rw [hv2] at hown2;rw [hv3] at hown3;obtain ⟨cg2,hcg2⟩:=lC hown2;have hne2:gs≠go2:=Qq hS2 hcg2;have own2:=(hown2.alloc (.cells #[.int .i64 (k:Int)] 3)).kept g3 (.inr (by simp only [Value.ownBlock];intro e;exact hne2 (Option.some.inj e).symm));have hgo1:=(HO.out.lt go rfl).1;have hgs1:=(HSO.out.lt gs rfl).1;have b1:=(hbel.alloc hbs (.cells #[] 3)).grown g1 (by simp;omega) (fun j hj=>by have:=Option.some.inj hj;omega);have b2:=(b1.alloc (by omega) (.cells #[.slice a1 c c1] 223)).grown g2 (by simp;omega) (fun j hj=>by have:=Option.some.inj hj;omega);have b3:=(b2.alloc (by omega) (.cells #[.int .i64 (k:Int)] 3)).grown g3 (by simp;omega) (fun j hj=>by have:=Option.some.inj hj;omega);refine ⟨k+1,r+1,gs3,cs3,go2,co2,out++[st.drop r],st.take r++[k],xs++[.slice a1 c c1],by omega,by go_num,by omega,rfl,rfl,⟨HR.out,?_,?_⟩,own2,?_,?_,b3⟩
      ·simp [hrun.out.2.1]
      ·have:=hrun.out.2.2
       simp;omega
      ·have e:Il (st.take r++[k])=(Il st).take r++[.int .i64 (k:Int)]:=by simp [Il,List.map_take]
       rw [e];exact hown3
      ·exact fam
     case measure=>simp [intOf];omega
  ·have hke:k=ns.length:=by omega
   have HE:Hid (P.kidsOf ns=some (out,st)):=by
    have h:=hrun.out.1;rw [hke,List.take_length] at h;exact h
   have HL:Hid (out.length=ns.length∧st.length=m):=⟨by rw [← hke];exact hrun.out.2.1,hrun.out.2.2⟩;subst hke;by_cases hm1:m=1
   ·have j1:((m:Int) == 1)=true:=by rw [beq_iff_eq];omega
    have HD:Hid (decide (st.length=1)=true):=by show _=_;rw [HL.out.2];simp [hm1]
    clear hm1;go_wp2_with fail
    go_ret2
    refine ⟨hB0.trans (hbel.mono (by omega)),?_⟩;rw [HE.out];refine ⟨go,co,?_,Ql HF.out HO.out,HL.out.1⟩;rw [HD.out];rfl
   ·have j1:((m:Int) == 1)=false:=by rw [beq_eq_false_iff_ne];omega
    have HD:Hid (decide (st.length=1)=false):=by show _=_;rw [HL.out.2];simp [hm1]
    clear hm1;go_wp2_with fail
    go_ret2
    refine ⟨hB0.trans (hbel.mono (by omega)),?_⟩;rw [HE.out];refine ⟨go,co,?_,Ql HF.out HO.out,HL.out.1⟩;rw [HD.out];rfl
theorem Gu {s:ByteArray} (h:s.size=0):s.toList=[]:=by
 rw [ByteArray.toList_eq];exact List.eq_nil_of_length_eq_zero (by simpa using h)
theorem Mu {s:ByteArray} (h:s.toList=[]):s.size=0:=by
 rw [ByteArray.toList_eq] at h;have:=congrArg List.length h;simpa using this
theorem Pv {s:ByteArray} (h:s.toList.isEmpty=true):s.size=0:=Mu (by simpa using h)
theorem Gm {s:ByteArray} (h:s.size≠0):¬ s.toList=[]:=fun e=>h (Mu e)
theorem Fa {s:ByteArray} (h:s.size≠0):s.toList.isEmpty=false:=by
 cases e:s.toList.isEmpty with
 | false=>rfl
 | true=>exact absurd (Pv e) h
end Go.Proofs.YtpeajnkkdioflaaGreat
