import Derived.Test.YtpidfnfilnkhkaaGreatDc2
import Derived.Test.YtpidfnfilnkhkaaGreatJ34
import Derived.Lib.AppendZeros
import Derived.Laws.OwnMore
set_option maxHeartbeats 4000000
set_option maxRecDepth 100000
namespace Go.Proofs.YtpidfnfilnkhkaaGreat
open Go.RowKit Tryz
theorem Qs{lo:Nat}{w:World}{a:OA}{l:List Cpy}(h:SliceC CpyC 12 lo w a l):SzC l:=by
 intro c hc;obtain⟨i,hi⟩:=List.getElem?_of_mem hc;obtain⟨_,_,_,_,_,a7,c7,_,_,_,_,_,_,_,_,_,_,_,_,z0,z1,z6,z9,z10,z11,_⟩:=h.at hi;exact⟨z0,z1,z6,z9,z10,z11⟩
theorem CB{lo:Nat}{w:World}{a:OA}{l:List Brt}(h:SliceC BrtC 6 lo w a l):SzB l:=by
 intro c hc;obtain⟨i,hi⟩:=List.getElem?_of_mem hc;obtain⟨_,_,_,_,_,a7,c7,_,_,_,_,_,_,z0,z1,_⟩:=h.at hi;exact⟨z0,z1⟩
theorem pU{x:Flt}{cn bn:BA}{ci bi:Nat}{b:Brt}(h:Ir x cn bn=some (ci,bi))(hb:x.berths[bi]?=some b):b.name=bn:=by
 unfold Ir at h
 split at h
 .split at h
  .rename_i e1 e2
   cases h
   have h9:=(Du e2).2;rw[Cl hb]at h9;cases h9
   rfl
  .cases h
 .cases h
open Go.WideMaps Go.Maps Tryz
structure VC where
 p:Nat
 m1:Nat
 m2:Nat
 m3:Nat
 m4:Nat
 ci:Nat
 bi:Nat
 G:Nat
 q:Nat
 lo:Nat
 B:Nat
 L0:Nat
 c1:Nat
 c2:Nat
 c7:Nat
 cm:Nat
 gp:Nat
 rb:Nat
 rc:Nat
 x:Flt
 a1:OA
 a2:OA
 a7:OA
 am:OA
 y:Cpy
 b:Brt
 u1:Int
 u2:Int
 u3:Int
 is:List Int
 W0:World
structure VOk (k:VC):Prop where
 pG:k.p≠k.G
 lB:k.lo<=k.B
 GL:k.G<k.L0
 mL:k.m4<k.L0
 pL:k.p<k.L0
 LW:k.L0=k.W0.heap.size
 n1:∀w',Bt2 k.G k.m4 k.W0 w'->SliceC BrtC 6 k.lo w' k.a1 k.x.berths
 hv:Au k.x=true
 hy:k.x.copies[k.ci]?=some k.y
 hat:k.y.at_=⟨#[]⟩
 hb:k.x.berths[k.bi]?=some k.b
 sz:SzC k.x.copies
 sp:Ti k.x k.x.copies.length k.is
 gL:k.L0<=k.gp
 rL:k.L0<=k.rb
 ml:k.m1<k.L0/\k.m2<k.L0/\k.m3<k.L0
structure VS (k:VC) (w:World):Prop where
 bt:Bt2 k.G k.m4 k.W0 w
 fm:FoundM k.p k.m1 k.m2 k.m3 k.m4 (k.y.select,k.bi) k.x k.a1 k.c1 k.a2 k.c2 (some ⟨k.G,0,none⟩) k.q w
 ow:OwnCT k.lo k.B w (.slice (some ⟨k.G,0,none⟩) k.x.copies.length k.q) k.x.copies
 rw:w.ownsRow k.L0 3 1 (.slice (some ⟨k.gp,0,none⟩) k.is.length k.is.length) k.is.length (inV k.is)
 rs:w.rangeAt k.rb 0 Pq
 rl:k.rb<w.heap.size
theorem Bt2.refl(g m:Nat)(w:World):Bt2 g m w w:=⟨⟨rfl,rfl,rfl⟩,Nat.le_refl _,λ_ _ _ _=>rfl⟩
theorem Bt2.of_below{g m:Nat}{w w':World}(h:Below w.heap.size w w'):Bt2 g m w w':=Bt2.of1 (But.of_below h)
theorem Bt2.keeps{g m L:Nat}{w w':World}(h:Bt2 g m w w')(hg:g<L)(hm:m<L):Keeps L w w':=⟨h.2.1,λb o h1 h2=>by
 have h9:=h.2.2 b h2 (by omega) (by omega)
 exact⟨World.cell?_of_block (a:=⟨b,o,none⟩) h9,World.frozen?_of_block (a:=⟨b,o,none⟩) h9⟩⟩
theorem VS.go{k:VC}{w w':World}(h:VS k w)(ho:VOk k)(hb:Bt2 k.G k.m4 w w')(hf:FoundM k.p k.m1 k.m2 k.m3 k.m4 (k.y.select,k.bi) k.x k.a1 k.c1 k.a2 k.c2 (some ⟨k.G,0,none⟩) k.q w')(hw:OwnCT k.lo k.B w' (.slice (some ⟨k.G,0,none⟩) k.x.copies.length k.q) k.x.copies):VS k w':=by
 have h1:=ho.GL;have h2:=ho.mL;have h3:=ho.gL;have h4:=ho.rL;have h5:=h.rl;refine⟨h.bt.trans hb,hf,hw,Ew h.rw (hb.2.2 _ (h.rw.lt k.gp rfl).2 (by omega) (by omega)),λj v hj=>(hb.cell (a:=⟨k.rb,0+j,none⟩) h5 (by show k.rb≠k.G;omega) (by show k.rb≠k.m4;omega)).trans (h.rs j v hj),lL h5 hb.2.1⟩
theorem VS.below{k:VC}{w w':World}(h:VS k w)(ho:VOk k)(hb:Below w.heap.size w w'):VS k w':=h.go ho (Bt2.of_below hb) (h.fm.below hb) (h.ow.below hb)
theorem Ys{α:Type}{C:En α}{n lo Bd:Nat}{w w':World}{a:OA}{xs:List α}(h:SliceC C n lo w a xs)(hb:Below Bd w w')(ha:xs≠[]->∀b o,a=some ⟨b,o,none⟩->b<Bd)(hC:∀lo w w' f x,C lo w f x->C lo w' f x):SliceC C n lo w' a xs:=by
 refine⟨h.1,?_⟩;by_cases hn:xs=[]
 .exact .inl hn
 rcases h.2 with h2|⟨b,o,rfl,⟨h1,hf⟩,h2,h3⟩
 .exact .inl h2
 .have e:=hb.block b (ha hn b o rfl)
  refine .inr ⟨b,o,rfl,⟨h1,λhp p=>(World.frozen?_of_block (a:=⟨b,p,none⟩) e).trans (hf hp p)⟩,lL h2 hb.size,λj x hj=>?_⟩;have h9:=hC lo w w' _ x (h3 j x hj)
  rwa [show(λi=>w.cell? ⟨b,o+j*n+i,none⟩)=λi=>w'.cell? ⟨b,o+j*n+i,none⟩from funext λi=>(World.cell?_of_block (w:=w) (a:=⟨b,_,none⟩) e).symm]at h9
theorem Tv{lo Bd:Nat}{w w':World}{a:OA}{xs:List Int}(h:SliceC IntC 1 lo w a xs)(hb:Below Bd w w')(ha:xs≠[]->∀b o,a=some ⟨b,o,none⟩->b<Bd):SliceC IntC 1 lo w' a xs:=Ys h hb ha (λ_ _ _ _ _ h=>h)
theorem OwnCT.low{lo B G q Bd:Nat}{w w':World}{l:List Cpy}(h:OwnCT lo B w (.slice (some ⟨G,0,none⟩) l.length q) l)(hb:Below Bd w w')(hG:G<Bd):OwnCT lo B w' (.slice (some ⟨G,0,none⟩) l.length q) l:=by
 obtain⟨G',q',cs,e,h1,h2⟩:=h;cases e
 refine⟨G,q,cs,rfl,Ew h1 (hb.block G hG),λj y hj=>?_⟩;obtain⟨a7,c7,q1,q2,q3⟩:=h2 j y hj;exact⟨a7,c7,q1,Ys q2 hb (λk1 b o k2=>Nat.lt_trans (q3 k1 b o k2) hG) (λ_ _ _ _ _ h=>h),q3⟩
theorem Bt2.low{g m Bd:Nat}{v w w':World}(h:Bt2 g m v w)(hb:Below Bd w w')(h0:v.heap.size<=Bd):Bt2 g m v w':=⟨⟨hb.os.trans h.1.1,hb.tape.trans h.1.2.1,hb.output.trans h.1.2.2⟩,lT h.2.1 hb.size,λx h1 h2 h3=>(hb.block x (by omega)).trans (h.2.2 x h1 h2 h3)⟩
theorem VS.same{k:VC}{w w':World}(h:VS k w)(ho:VOk k)(hb:Below k.L0 w w')(h1:w'.heap[k.gp]?=w.heap[k.gp]?)(h2:w'.heap[k.rb]?=w.heap[k.rb]?):VS k w':=by
 have e1:=ho.GL;have e2:=ho.mL;have e3:=ho.pL;obtain⟨e4,e5,e6⟩:=ho.ml;obtain⟨q1,q2,q3,q4,q5,q6,q7⟩:=h.fm;refine⟨h.bt.low hb (by rw[<-ho.LW];exact Nat.le_refl _),⟨λj v hj=>(hb.cell (p:=⟨k.p,0+j,none⟩) e3).trans (q1 j v hj),lL q2 hb.size,Af q3 hb e4,Af q4 hb e5,Af q5 hb e6,q6.below hb e2,q7⟩,h.ow.low hb e1,Ew h.rw h1,λj v hj=>(World.cell?_of_block (w:=w) (a:=⟨k.rb,0+j,none⟩) h2).trans (h.rs j v hj),lL h.rl hb.size⟩
theorem VS.low{k:VC}{w w':World}{Bd:Nat}(h:VS k w)(ho:VOk k)(hb:Below Bd w w')(h0:k.L0<=Bd)(h1:k.gp<Bd)(h2:k.rb<Bd):VS k w':=h.same ho (hb.mono h0) (hb.block _ h1) (hb.block _ h2)
theorem VS.size{k:VC}{w:World}(h:VS k w)(ho:VOk k):k.L0<=w.heap.size:=by rw[ho.LW];exact h.bt.2.1
theorem rR{k:VC}(ho:VOk k){l:List Nat}(hl:∀e∈l,e∈Bc k.x k.y k.b):(∀(j t:Nat),l[j]?=some t->t<k.x.copies.length)/\(∀q,q∈l->∀c,k.x.copies[q]?=some c->c.at_=k.b.name)/\k.ci∉l:=by
 refine⟨λj t h=>?_,λq hq c hc=>?_,λh=>?_⟩
 .obtain⟨c,hc,_⟩:=Gf (hl t (List.mem_of_getElem? h))
  exact Ac hc
 .obtain⟨c',hc',h1,_⟩:=Gf (hl q hq)
  rw[hc]at hc';cases hc'
  exact h1
 .obtain⟨c',hc',h1,_⟩:=Gf (hl _ h)
  have h2:=ho.hy;rw[hc']at h2;cases h2
  have:=ho.hat;rw[h1]at this;exact Iy ((Bb ho.hv).2.2.1 k.bi k.b ho.hb).1 this
def VR(k:VC)(t:Bool)(w:World)(e:Ending)(w':World):Prop:=e=.returned (.bool t)/\VS k w'/\Bt2 k.G k.m4 w w'
theorem fF{L G:Nat}{w:World}{pa:OA}{is:List Int}(h:SliceC IntC 1 L w pa is)(hG:G<L):is≠[]->∀b o,pa=some ⟨b,o,none⟩->b≠G:=by
 intro hne b o e;subst e;rcases h.2 with h2|⟨b',o',e',⟨h1,_⟩,_,_⟩
 .exact absurd h2 hne
 .cases e'
  omega
theorem aP(k:VC)(ho:VOk k)(l:List Nat)(la:OA)(lc:Nat)(w:World)(hS:VS k w)(hl:SliceC IntC 1 k.L0 w la (plI l))(hm:∀e∈l,e∈Bc k.x k.y k.b)(hs:l.length<=1048576)(fa:Nat)(cb:Array Value)(t:Bool)(heg:∀args w,(callFunc fa args).run prog w=.ok (.enter fa args) w)(hask:∀(w2:World) (a8:OA) (c8:Nat) (an:OA) (cn:Nat) (v1 v2 v3:Int),Bt2 k.G k.m4 w w2->SpotK w2 k.lo k.ci k.bi (woF k.x l) k.a1 (some ⟨k.G,0,none⟩) k.y a8 k.b an->v1=Ba (woF k.x l) k.ci k.b.name (woF k.x l).copies.length->v2=Bn (woF k.x l) k.ci k.b.name (woF k.x l).copies.length->v3=Bq (woF k.x l) k.ci k.b.name (woF k.x l).copies.length->(0<=v2/\v2<=60000)->(0<=v3/\v3<=60000)->FoundM k.p k.m1 k.m2 k.m3 k.m4 (k.y.select,k.bi) (woF k.x l) k.a1 k.c1 k.a2 k.c2 (some ⟨k.G,0,none⟩) k.q w2->Calls prog fa (#[.agg (Ai k.p k.ci k.bi k.y a8 c8 k.b an cn v1 v2 v3)]++cb) w2 λe w'=>e=.returned (.bool t)/\MemoAt k.m4 (k.y.select,k.bi) k.x.berths w'/\But k.m4 w2.heap.size w2 w') :
  Calls prog 57 #[.agg (Ai k.p k.ci k.bi k.y k.a7 k.c7 k.b k.am k.cm k.u1 k.u2 k.u3),.slice la l.length lc,.func (.func fa) #[] cb] w (VR k t w):=by
 obtain⟨q1,q2,q3⟩:=rR ho hm;refine(kN k.p k.m1 k.m2 k.m3 k.m4 k.ci k.bi k.x k.a1 k.c1 k.a2 k.c2 k.G k.q k.lo k.B k.y k.a7 k.c7 k.b k.am k.cm k.u1 k.u2 k.u3 l la lc k.L0 w hS.fm ho.pG hS.ow ho.lB (λw' h=>ho.n1 w' (hS.bt.trans h)) ho.hv ho.hy q3 ho.hb ho.sz hl (λhne b o e=>⟨fF hl ho.GL (λe9=>hne (by simpa using e9)) b o e,fF hl ho.mL (λe9=>hne (by simpa using e9)) b o e⟩) q1 q2 hs fa cb t heg hask).mono ?_;rintro e w' ⟨rfl,h1,h2,h3⟩;exact⟨rfl,hS.go ho h3 h1 h2,h3⟩
theorem sM(k:VC)(ho:VOk k)(l:List Nat)(la:OA)(lc:Nat)(w:World)(hS:VS k w)(hl:SliceC IntC 1 k.L0 w la (plI l))(hm:∀e∈l,e∈Bc k.x k.y k.b)(hs:l.length<=1048576) :
  Calls prog 57 #[.agg (Ai k.p k.ci k.bi k.y k.a7 k.c7 k.b k.am k.cm k.u1 k.u2 k.u3),.slice la l.length lc,.func (.func 58) #[] #[]] w (VR k (cQ k.x k.ci k.y k.b l) w) :=
 aP k ho l la lc w hS hl hm hs _ _ _ (enters_of func58 (by kernel_rfl) rfl) λw2 a8 c8 an cn v1 v2 v3 _ hK g1 g2 g3 h2 h3 hF=>by
  refine(uB k.lo k.p k.m1 k.m2 k.m3 k.m4 k.ci k.bi (woF k.x l) k.a1 k.c1 k.a2 k.c2 (some ⟨k.G,0,none⟩) k.q k.y a8 c8 k.b an cn v1 v2 v3 w2 hK h2 h3 hF).mono ?_;rintro e w' ⟨rfl,h4,h5⟩;exact⟨by rw[iR g1 g2 g3];rfl,h4,h5⟩
theorem rO(k:VC)(ho:VOk k)(l:List Nat)(la:OA)(lc:Nat)(w:World)(hS:VS k w)(hl:SliceC IntC 1 k.L0 w la (plI l))(hm:∀e∈l,e∈Bc k.x k.y k.b)(hs:l.length<=1048576) :
  Calls prog 57 #[.agg (Ai k.p k.ci k.bi k.y k.a7 k.c7 k.b k.am k.cm k.u1 k.u2 k.u3),.slice la l.length lc,.func (.func 140) #[] #[]] w (VR k (Fq (woF k.x l) k.ci k.y k.b) w) :=
 aP k ho l la lc w hS hl hm hs _ _ _ (enters_of func140 (by kernel_rfl) rfl) λw2 a8 c8 an cn v1 v2 v3 _ hK _ _ _ _ _ hF =>
  lF w2 k.lo k.p k.m1 k.m2 k.m3 k.m4 k.ci k.bi (woF k.x l) k.a1 k.c1 k.a2 k.c2 (some ⟨k.G,0,none⟩) k.q k.y a8 c8 k.b an cn v1 v2 v3 hK w2 (Below.refl _ _) hF
theorem tK(k:VC)(ho:VOk k)(l:List Nat)(la:OA)(lc cb:Nat)(w:World)(hS:VS k w)(hl:SliceC IntC 1 k.L0 w la (plI l))(hm:∀e∈l,e∈Bc k.x k.y k.b)(hs:l.length<=1048576)(hcL:k.L0<=cb)(hcb:w.cell? ⟨cb,26,none⟩=some (.slice (some ⟨k.rb,0,none⟩) 7 k.rc)) :
  Calls prog 57 #[.agg (Ai k.p k.ci k.bi k.y k.a7 k.c7 k.b k.am k.cm k.u1 k.u2 k.u3),.slice la l.length lc,.func (.func 178) #[] #[.pointer (some ⟨cb,0,none⟩)]] w (VR k (Oe (woF k.x l) k.ci k.y k.b) w) :=
 aP k ho l la lc w hS hl hm hs _ _ _ (enters_of func178 (by kernel_rfl) rfl) λw2 a8 c8 an cn v1 v2 v3 hb hK g1 g2 g3 h2 h3 hF=>by
  have e1:=ho.GL;have e2:=ho.mL;have e3:=ho.rL;exact uH k.lo k.p k.m1 k.m2 k.m3 k.m4 k.ci k.bi (woF k.x l) k.a1 k.c1 k.a2 k.c2 (some ⟨k.G,0,none⟩) k.q k.y a8 c8 k.b an cn v1 v2 v3 cb k.rb k.rc w2 hK g1 g2 g3 h2 h3 hF
   ((hb.cell (a:=⟨cb,26,none⟩) (block_lt_of_cell hcb) (by show cb≠k.G;omega) (by show cb≠k.m4;omega)).trans hcb)
   (λj v hj=>(hb.cell (a:=⟨k.rb,0+j,none⟩) hS.rl (by show k.rb≠k.G;omega) (by show k.rb≠k.m4;omega)).trans (hS.rs j v hj)) (lL hS.rl hb.2.1) (by omega)
theorem iY(k:VC)(ho:VOk k)(l:List Nat)(la:OA)(lc:Nat)(w:World)(hS:VS k w)(hl:SliceC IntC 1 k.L0 w la (plI l))(hm:∀e∈l,e∈Bc k.x k.y k.b)(hs:l.length<=1048576) :
  Calls prog 177 #[.pointer (some ⟨k.p,0,none⟩),.slice la l.length lc,.slice (some ⟨k.gp,0,none⟩) k.is.length k.is.length] w (Rt (.bool (lcB k.x l)) w):=by
 obtain⟨l2,l3,_,_,h4,h5⟩:=Aw ho.hv;have n3:=hS.ow.copies ho.sz (by unfold maxLen;omega) ho.lB;refine(jS k.p k.m2 k.x (some ⟨k.G,0,none⟩) k.q k.lo k.L0 l la lc k.is k.gp k.L0 w (hS.fm.1 3 _ rfl) (hS.fm.1 5 _ rfl) hS.fm.2.2.2.1 n3 l2 l3 h4 h5 hl hs (rR ho hm).1 ho.sp hS.rw).mono ?_;rintro e w' ⟨t,rfl,h6,h7⟩;exact⟨Ab (by rw[Bool.eq_iff_iff,h6,bE]),h7⟩
def ltS(s t:BA):Bool:=Op.bytesLess s.toList t.toList
def nmL(a b:List BA):Bool:=Cf (λs t=>Op.bytesLess s.toList t.toList) a b
theorem Ri:∀a b:List Int,Ep a b=Cf ltI a b
 |[],[]=>rfl
 |[],_::_=>rfl
 |_::_,[]=>rfl
 |a::x,b::y=>by
  unfold Ep Cf;rw[Ri x y];rfl
theorem rV{xs ys:List BA}{k:Nat}{x y:BA}(hx:xs[k]?=some x)(hy:ys[k]?=some y):nmL (xs.drop k) (ys.drop k)=if x=y then nmL (xs.drop (k+1)) (ys.drop (k+1))else Op.bytesLess x.toList y.toList:=by
 have h1:=Ac hx;have h2:=Ac hy;rw[List.drop_eq_getElem_cons h1,List.drop_eq_getElem_cons h2];rw[gE h1]at hx;rw[gE h2]at hy;cases hx
 cases hy
 rfl
theorem lM{xs ys:List BA}{k:Nat}(hk:k<=xs.length)(hy:k<=ys.length)(h:xs.length=k\/ys.length=k):nmL (xs.drop k) (ys.drop k)=decide (xs.length<ys.length):=by
 by_cases h1:k<ys.length
 .have hx:xs.length=k:=by omega
  rw[List.drop_eq_nil_of_le (by omega),List.drop_eq_getElem_cons h1];simp only[nmL,Cf];exact(decide_eq_true (by omega)).symm
 .have hy':ys.length=k:=by omega
  have e:ys.drop k=[]:=List.drop_eq_nil_of_le (by omega);rw[e];by_cases h2:k<xs.length
  .rw[List.drop_eq_getElem_cons h2]
   simp only[nmL,Cf];exact(decide_eq_false (by omega)).symm
  .rw[List.drop_eq_nil_of_le (by omega)]
   simp only[nmL,Cf];exact(decide_eq_false (by omega)).symm
theorem oM(xs ys:List BA)(a a':OA)(cap cap' lo lo':Nat)(w:World)(hg:SliceC StrC 1 lo w a xs)(hh:SliceC StrC 1 lo' w a' ys) :
  Calls prog 46 #[.slice a xs.length cap,.slice a' ys.length cap'] w (Rt (.bool (nmL xs ys)) w):=by
 have hl1:=hg.1;have hl2:=hh.1;unfold maxLen at hl1 hl2;have HG:=iH hg;have HH:=iH hh;clear hg hh;go_enter func46,ntmps46
 go_wp2
 go_loopw [5] (λi wr=>∃(k:Nat),k<=xs.length/\k<=ys.length/\i=.int .i64 k/\Hid (nmL xs ys=nmL (xs.drop k) (ys.drop k))/\Below w.heap.size w wr) (λi _=>xs.length-(intOf i).toNat)
 case atStart=>exact⟨0,zL,zL,rfl,by show _=_;simp,Below.refl _ _⟩
 case round =>
  obtain⟨k,hk,hk2,rfl,hrest,hbel⟩:=hrel;by_cases hlt:k<xs.length
  .obtain⟨x,hx⟩:=gXe hlt
   obtain⟨b,o,rfl,_,_,hc⟩:=(HG.out.below StrC.holds hbel nL).at hx;have r0:=hc.1;simp only[Nat.mul_one,Nat.add_zero]at r0;by_cases hlt2:k<ys.length
   .obtain⟨y,hy⟩:=gXe hlt2
    obtain⟨b',o',rfl,_,_,hc'⟩:=(HH.out.below StrC.holds hbel nL).at hy;have t0:=hc'.1;simp only[Nat.mul_one,Nat.add_zero]at t0;have HD:Hid (nmL (xs.drop k) (ys.drop k)=if x=y then nmL (xs.drop (k+1)) (ys.drop (k+1))else Op.bytesLess x.toList y.toList):=rV hx hy;clear hx hy hc hc';by_cases he:x=y
    .have e9:=xP he
     have HE:=iH he;clear he;go_wp2_with fail
     go_region
     go_wp2
     go_roundw
     case rel =>
      have h1:=HD.out;rw[if_pos HE.out]at h1;exact⟨k+1,by omega,by omega,by go_num,hrest.out.trans h1,by go_grown⟩
     case measure=>simp[intOf];omega
    .have h1:=HD.out
     rw[if_neg he]at h1;have H1:Hid (nmL xs ys=Op.bytesLess x.toList y.toList):=hrest.out.trans h1;have e9:=xN he;clear h1 he;go_wp2_with fail
     go_region
     go_wp2_with fail
     go_region
     go_wp2
     go_ret;exact⟨Ab H1.out.symm,by go_grown⟩
   .have HD:Hid (nmL (xs.drop k) (ys.drop k)=decide (xs.length<ys.length)):=lM hk hk2 (by omega)
    clear hx hc
    go_wp2
    go_ret;exact⟨Ab (hrest.out.trans HD).symm,hbel⟩
  .have HD:Hid (nmL (xs.drop k) (ys.drop k)=decide (xs.length<ys.length)):=lM hk hk2 (by omega)
   go_wp2
   go_ret;exact⟨Ab (hrest.out.trans HD).symm,hbel⟩
structure Uy where
 ad:OA
 len:Nat
 cap:Nat
 cs:List Value
def PartOk(n:Nat)(w:World)(p:Uy):Prop:=(p.ad=none->p.len=0)/\p.cs.length=p.len*n/\(∀ad,p.ad=some ad->∀j u,p.cs[j]?=some u->w.cell? (ad.add j)=some u)/\∀u∈p.cs,u.oneCell'=true
theorem PartOk.below{n:Nat}{w w':World}{p:Uy}(h:PartOk n w p)(hb:Below w.heap.size w w'):PartOk n w' p :=
 ⟨h.1,h.2.1,λad e j u hj=>(hb.cell (block_lt_of_cell (h.2.2.1 ad e j u hj))).trans (h.2.2.1 ad e j u hj),h.2.2.2⟩
def Lw(ps:List Uy):Nat:=(ps.map (·.len)).sum
def Hm(ps:List Uy):List Value:=ps.flatMap (·.cs)
theorem Ye(ps:List Uy)(p:Uy):Lw (ps++[p])=Lw ps+p.len:=by simp[Lw]
theorem eK(ps:List Uy)(p:Uy):Hm (ps++[p])=Hm ps++p.cs:=by simp[Hm]
theorem Yv(ps:List Uy)(k:Nat):Lw (ps.take k)<=Lw ps:=by
 have h:=congrArg Lw (List.take_append_drop k ps);unfold Lw at *;rw[List.map_append,List.sum_append]at h;omega
theorem oI(n:Nat)(w:World)(h9:n<=1000) :
  Calls prog 170 #[.slice none 0 0,.int .i64 ((n:Nat):Int)] w λe w'=>∃v,e=.returned v/\w'.ownsRow w.heap.size 3 1 v 0 []/\Below w.heap.size w w':=by
 by_cases h0:0<n
 .obtain⟨i0,hi,hz0,hz1,hz2⟩:=info_parts Fl
  have hrz:∀ty,(Builtin.append_ #[68,3] ty #[.slice none 0 0,.int .i64 ((n:Nat):Int)]).run prog w=.ok (.slice (some ⟨w.heap.size,0,none⟩) n (grownCap w n 0 3)) (w.drew.alloc (.cells (Builtin.zeroCells (Value.cells (.int .i64 0)) n++Builtin.zeroCells (Value.cells (.int .i64 0)) (grownCap w n 0 3-n)) 3)):=λty =>
   Lib.run_append_nil_zeros w 68 3 ty 3 i0 _ .i64 .i64 underlying68 underlying3 hi hz0 n h0 (by rw[hz1];omega) (by omega) (by rw[hz2];omega)
  obtain⟨G,hG⟩:∃G,G=grownCap w n 0 3:=⟨_,rfl⟩;rw[<-hG]at hrz;obtain⟨ROW,hROW⟩:∃ROW:Array Value,ROW=Builtin.zeroCells (Value.cells (.int .i64 0)) n++Builtin.zeroCells (Value.cells (.int .i64 0)) (G-n):=⟨_,rfl⟩;rw[<-hROW]at hrz;have hGn:n<=G:=by rw[hG];exact grownCap_ge w _ _ _
  have hGm:G<=maxLen:=by rw[hG];exact grownCap_le_maxLen w _ _ _ (by unfold maxLen;omega)
  have HRS:Hid (ROW.size=G*1):=by
   show _=_
   rw[hROW,Array.size_append,size_zeroCells,size_zeroCells];simp[Value.cells];omega
  have HGM:=iH hGm;have hG63:G<=9223372036854775807:=by unfold maxLen at hGm;omega
  clear hG hROW hi hz0 hz1 hz2 hGm;go_enter func170,ntmps170;go_wp2_with(at_builtin;refine Lib.wpList_append_run _ rfl _ _ _ _ rfl _ _ rfl rfl _ _ (hrz _) ?_);go_ret;exact⟨_,rfl,World.ownsRow_made w.drew ROW G nL HGM HRS,((Below.refl _ w).drew).alloc nL _⟩
 .obtain rfl:n=0:=by omega
  go_enter func170,ntmps170
  go_wp2
  go_ret;exact⟨_,rfl,World.ownsRow_nil _ _ _ _,Below.refl _ _⟩
theorem bT(ps:List Uy)(p K Kc:Nat)(w:World)(hK:ps.length=K)(h3:K<=1000)(hps:∀k x,ps[k]?=some x->PartOk 1 w x/\w.cell? ⟨p,k,none⟩=some (.slice x.ad x.len x.cap))(hpl:p<w.heap.size)(hsm:Lw ps<=1000) :
  Calls prog 144 #[.slice (some ⟨p,0,none⟩) K Kc] w λe w'=>∃v,e=.returned v/\w'.ownsRow w.heap.size 3 1 v (Lw ps) (Hm ps)/\Below w.heap.size w w':=by
 obtain⟨i0,hi,hz0,hz1,hz2⟩:=info_parts Fl;have HI0:=iH hi;have HP:=iH hps;have HKK:=iH hK;clear hps hK hi;go_enter func144,ntmps144
 go_wp2
 go_loopw [3,11] (λs i wr=>∃k m:Nat,k<=K/\i=.int .i64 ((k:Nat):Int)/\s=.int .i64 ((m:Nat):Int)/\m<=1000/\Hid (m=Lw (ps.take k))/\Below w.heap.size w wr) (λ_ i _=>K-(intOf i).toNat)
 case atStart=>exact⟨0,0,zL,rfl,rfl,zL,rfl,Below.refl _ _⟩
 case round =>
  obtain⟨k,m,hk,rfl,rfl,hm,HM,hB⟩:=hrel;by_cases hlt:k<K
  .obtain⟨x,hx⟩:∃x,ps[k]?=some x:=⟨ps[k]'(by have:=HKK.out;omega),gE _⟩
   have kc:wr.cell? ⟨p,k,none⟩=some (.slice x.ad x.len x.cap):=(hB.cell (p:=⟨p,k,none⟩) hpl).trans (HP k x hx).2;have HS:Hid (m+x.len=Lw (ps.take (k+1))):=by
    show _=_
    rw[Ij hx,Ye,HM.out]
   have hs9:m+x.len<=1000:=by have h9:=HS.out;have h8:=Yv ps (k+1);omega
   have hn0:¬((m:Nat):Int)+((x.len:Nat):Int)<0:=by omega
   have i1:(k:Int)<(K:Int):=by omega
   clear hx HM;generalize x.len=xl at *
   go_wp2
   go_roundw
   case rel=>exact⟨k+1,m+xl,by omega,by go_num,by first|rfl|go_num,by omega,HS,hB⟩
   case measure=>simp[intOf];omega
  have hke:k=K:=by omega
  subst hke;have HM2:Hid (m=Lw ps):=by
   have h9:=HM.out;rw[List.take_of_length_le (by have:=HKK.out;omega)]at h9;exact h9
  have i1:¬(k:Int)<(k:Int):=by omega
  go_upto_region 10 with(go_at_call 170;refine(oI m _ hm).mono ?_;rintro e w2⟨v0,rfl,hO,hb2⟩;have HO2:=iH hO;have hB2:=qTr hB hb2;have HL2:Hid (w2.ownsRow w.heap.size 3 1 v0 0 []):=Jv HO2 hB.size;clear hO HO2 hb2);clear hB HM hlt hk i1
  go_wp2
  go_loopw [6,27] (λvx i wq=>∃(j l:Nat)(v:Value),j<=k/\i=.int .i64 ((j:Nat):Int)/\vx=v/\l<=1000/\Hid (l=Lw (ps.take j))/\Hid (wq.ownsRow w.heap.size 3 1 v l (Hm (ps.take j)))/\Below w.heap.size w wq) (λ_ i _=>k-(intOf i).toNat)
  case atStart=>exact⟨0,0,_,zL,rfl,rfl,zL,rfl,HL2,hB2⟩
  case round =>
   clear HL2 hB2;obtain⟨j,l,v,hj,rfl,rfl,hl9,HL,HO,hB⟩:=hrel;by_cases hlt:j<k
   .obtain⟨x,hx⟩:∃x,ps[j]?=some x:=⟨ps[j]'(by have:=HKK.out;omega),gE _⟩
    have kc:wr.cell? ⟨p,j,none⟩=some (.slice x.ad x.len x.cap):=(hB.cell (p:=⟨p,j,none⟩) hpl).trans (HP j x hx).2;have HQ:=iH ((HP j x hx).1.below hB);have HS:Hid (l+x.len=Lw (ps.take (j+1))):=by
     show _=_
     rw[Ij hx,Ye,HL.out]
    have HT:Hid (Hm (ps.take (j+1))=Hm (ps.take j)++x.cs):=by
     show _=_
     rw[Ij hx,eK]
    have hs9:l+x.len<=1000:=by have h9:=HS.out;have h8:=Yv ps (j+1);omega
    have i1:(j:Int)<(k:Int):=by omega
    clear hx HL;go_wp2_with(at_builtin;refine Hh rfl _ _ 68 rfl w.heap.size 3 i0 _ 1 8 underlying68 HI0 hz0 hz1 hz2 rfl (by decide) _ _ _ rfl HO x.ad x.len x.cap x.cs rfl HQ.out.1 HQ.out.2.1 HQ.out.2.2.1 HQ.out.2.2.2 (by unfold maxLen;omega) (by omega) hB.size ?_;intro v' w5 hown hgrow hnil);have HO5:Hid (w5.ownsRow w.heap.size 3 1 v' (l+x.len) (Hm (ps.take (j+1)))):=by
     show World.ownsRow _ _ _ _ _ _ _
     rw[HT.out];exact hown
    have hB5:Below w.heap.size w w5:=hB.grown hgrow hB.size (by intro b hb;exact(HO.out.lt b hb).1);clear hown hgrow hnil HQ HT HO;go_roundw
    case rel=>exact⟨j+1,l+x.len,_,by omega,by go_num,rfl,hs9,HS,HO5,hB5⟩
    case measure=>simp[intOf];omega
   .have hje:j=k:=by omega
    subst hje;have i1:¬(j:Int)<(j:Int):=by omega
    have hT:ps.take j=ps:=List.take_of_length_le (by have:=HKK.out;omega);have HO9:=HO.out;rw[HL.out,hT]at HO9;replace HO9:=iH HO9;clear hT HO HL
    go_wp2
    go_ret;exact⟨_,rfl,HO9,hB⟩
theorem Qp{P:Program}{ops:Array Oper}{rest:List Oper}{op:Oper}{a:Act}{w:World}{Q:Exit->Act->World->Prop}(hw:Region.wanted op (yielded ops a.tmps)=true)(ty:TypeId)(x:Operand)(ho:op.op=.load ty x)(b o:Nat)(hx:a.eval x=.pointer (some ⟨b,o,none⟩))(cs:List Value)(d:TypeDesc)(hc:w.rangeAt b o cs)(hu:P.underlying ty=some d)(hd:d.isRow=true)(hi:(P.info? ty).map (·.size)=some cs.length)(h:wpList P ops Q rest (a.put op.dst (.agg cs.toArray)) w):wpList P ops Q (op::rest) a w :=
 wpList_step λ_ hK=>by rw[if_pos hw];exact wp_load_mid ty x ho b o hx cs d hc hu hd hi (hK _ _ h)
abbrev Co(k:VC)(ag:OA)(ng cg:Nat):Array Value:=#[.pointer (some ⟨k.p,0,none⟩),.int .i64 k.ci,.string k.y.name,.string k.y.service,.int .i64 k.y.rank,.int .i64 k.y.born,.int .i64 k.y.room,.int .i64 k.y.hold,.string k.y.select,.slice k.a7 k.y.likes.length k.c7,.int .i64 k.y.apart,.string k.y.near,.string k.y.fixed,.string k.y.at_,.int .i64 k.bi,.string k.b.name,.string k.b.zone,.slice k.am k.b.marks.length k.cm,.int .i64 k.b.room,.int .i64 k.b.hold,.bool k.b.closed,.int .i64 k.u1,.int .i64 k.u2,.int .i64 k.u3,.slice ag ng cg,.slice (some ⟨k.gp,0,none⟩) k.is.length k.is.length,.slice (some ⟨k.rb,0,none⟩) 7 k.rc]
theorem Nm{lo:Nat}{w:World}{a:OA}{c:Nat}{l:List Nat}(h:SliceC IntC 1 lo w a (plI l)):PartOk 1 w ⟨a,l.length,c,inV (plI l)⟩:=by
 refine⟨λe=>?_,by simp,λad e j u hj=>?_,Ss _⟩
 .rcases h.2 with h2|⟨b,o,h2,_⟩
  .have h3:l=[]:=by simpa using h2
   show l.length=0
   rw[h3];rfl
  .have e2:a=none:=e
   rw[e2]at h2;cases h2
 .obtain⟨i,hi,rfl⟩:=AE hj
  obtain⟨b,o,e2,_,_,hc⟩:=h.at hi;have e3:a=some ad:=e;rw[e3]at e2;cases e2
  have h9:_=_:=hc;simp only[Nat.mul_one,Nat.add_zero]at h9;rw[Addr.add_mid];exact h9
theorem aU{base lo:Nat}{w:World}{v:Value}{l:List Nat}{n:Nat}(h:w.ownsRow base 3 1 v n (inV (plI l)))(hn:n=l.length)(hm:n<=1048576)(hlo:lo<=base):∃a c,v=.slice a l.length c/\SliceC IntC 1 lo w a (plI l):=by
 subst hn;obtain⟨a,c,e,h2⟩:=Xk (is:=plI l) (w:=w) (base:=base) (e:=3) (v:=v) (by simpa using h) (by simp;unfold maxLen;omega);exact⟨a,c,by simpa using e,h2.keep IntC.holds (Keeps.refl _ _) hlo⟩
theorem zY(l o:List Nat)(la:OA)(lc:Nat)(oa:OA)(oc lo p kc:Nat)(w:World)(hl:SliceC IntC 1 lo w la (plI l))(ho:SliceC IntC 1 lo w oa (plI o))(hP:Blk p #[.slice la l.length lc,.slice oa o.length oc] 68 w)(hs:l.length<=400)(hso:o.length<=400) :
  Calls prog 144 #[.slice (some ⟨p,0,none⟩) 2 kc] w λe w'=>∃(ra:OA)(rc:Nat),e=.returned (.slice ra (l++o).length rc)/\SliceC IntC 1 w.heap.size w' ra (plI (l++o))/\Below w.heap.size w w':=by
 have e1:Lw [⟨la,l.length,lc,inV (plI l)⟩,⟨oa,o.length,oc,inV (plI o)⟩]=(l++o).length:=by simp[Lw]
 have e2:Hm [⟨la,l.length,lc,inV (plI l)⟩,⟨oa,o.length,oc,inV (plI o)⟩]=inV (plI (l++o)):=by simp[Hm,inV,plI]
 refine(bT [⟨la,l.length,lc,inV (plI l)⟩,⟨oa,o.length,oc,inV (plI o)⟩] p 2 kc w rfl (by omega) (λk x hx=>?_) hP.lt (by rw[e1,List.length_append];omega)).mono ?_
 .have hk:k<2:=Ac hx
  have hc:k=0\/k=1:=by omega
  rcases hc with rfl|rfl
  .cases hx
   exact⟨Nm hl,hP.cell rfl⟩
  .cases hx
   exact⟨Nm ho,hP.cell rfl⟩
 .rintro e w' ⟨v,rfl,h1,h2⟩
  rw[e1,e2]at h1;obtain⟨a,c,rfl,h3⟩:=aU (lo:=w.heap.size) h1 rfl (by rw[List.length_append];omega) nL;exact⟨a,c,rfl,h3,h2⟩
theorem aE(k:VC)(ho:VOk k)(l o:List Nat)(la:OA)(lc:Nat)(oa:OA)(oc:Nat)(ag:OA)(ng cg:Nat)(w:World)(hS:VS k w)(hl:SliceC IntC 1 k.L0 w la (plI l))(hm:∀e∈l,e∈Bc k.x k.y k.b)(hs:l.length<=400)(hol:SliceC IntC 1 k.L0 w oa (plI o))(hom:∀e∈o,e∈Bc k.x k.y k.b)(hso:o.length<=400) :
  Calls prog 150 #[.agg (Co k ag ng cg),.slice la l.length lc,.slice oa o.length oc] w (VR k (Ci k.x k.ci k.y k.b l o) w):=by
 have g1:=ho.GL;have g2:=ho.mL;have hL:=hS.size ho;have HX:=iH (Blk.alloc w (Co k ag ng cg) 112);have hb0:=(Below.refl _ w).alloc nL (Obj.cells (Co k ag ng cg) 112);have HS0:=iH (hS.below ho hb0);have HL0:=iH (hl.below IntC.holds hb0 nL);have HO0:=iH (hol.below IntC.holds hb0 nL);have HB0:Hid (Bt2 k.G k.m4 w (w.alloc (Obj.cells (Co k ag ng cg) 112))):=Bt2.of_below hb0;have HM:=iH hm;have HOM:=iH hom;have HK:=iH ho;clear hS hl hol hb0 hm hom;go_enter func150,ntmps150;go_upto_region 1 with fail;generalize w.alloc (Obj.cells (Co k ag ng cg) 112)=w0 at *;have k0:w0.cell? ⟨w.heap.size,0,none⟩=some (.pointer (some ⟨k.p,0,none⟩)):=HX.out.cell rfl;have k25:w0.cell? ⟨w.heap.size,25,none⟩=some (.slice (some ⟨k.gp,0,none⟩) k.is.length k.is.length):=HX.out.cell rfl;go_wp2_with fail;clear k0 k25;refine(iY k HK l la lc w0 HS0 HL0 HM (by omega)).mono ?_;rintro e w1⟨rfl,hb1⟩;have HS1:=iH (HS0.out.below HK hb1);have HL1:=qSl IntC.holds HL0 hb1;have HO1:=qSl IntC.holds HO0 hb1;have HX1:=qBk HX hb1;have HB1:=iH (HB0.out.trans (Bt2.of_below hb1));clear hb1 HS0 HL0 HO0 HX HB0;obtain⟨t1,ht1⟩:∃t,t=lcB k.x l:=⟨_,rfl⟩;rw[<-ht1];have HT1:=iH ht1;clear ht1
 cases t1 with
 |false =>
  have HQ:Hid (Ci k.x k.ci k.y k.b l o=false):=by show _=_;unfold Ci;rw[<-HT1.out];rfl
  go_wp2
  go_ret;exact⟨Ab HQ.out.symm,HS1,HB1⟩
 | true =>
  have HRA:Hid (w1.rangeAt w.heap.size 0 (Ai k.p k.ci k.bi k.y k.a7 k.c7 k.b k.am k.cm k.u1 k.u2 k.u3).toList):=λj v hj=>HX1.out.rangeA j v (by
    have hlt:j<24:=Ac hj;have h9:(Co k ag ng cg).toList=(Ai k.p k.ci k.bi k.y k.a7 k.c7 k.b k.am k.cm k.u1 k.u2 k.u3).toList++[.slice ag ng cg,.slice (some ⟨k.gp,0,none⟩) k.is.length k.is.length,.slice (some ⟨k.rb,0,none⟩) 7 k.rc]:=rfl;rw[h9,List.getElem?_append_left (by exact hlt)]
    exact hj)
  go_wp2_with(first|(refine Qp (by rfl) 60 _ rfl w.heap.size 0 (by first|rfl|(simp[go_sem];done)) (Ai k.p k.ci k.bi k.y k.a7 k.c7 k.b k.am k.cm k.u1 k.u2 k.u3).toList _ HRA underlying60 rfl Bk ?_));refine(rO k HK l la lc w1 HS1 HL1 HM (by omega)).mono ?_;rintro e w2⟨rfl,hS2,hb2⟩;have hlw1:w.heap.size<w1.heap.size:=HX1.out.lt;have HX2:Hid (Blk w.heap.size (Co k ag ng cg) 112 w2):=(hb2.2.2 w.heap.size hlw1 (by omega) (by omega)).trans HX1;have HS2:=iH hS2;have hkp:=hb2.keeps g1 g2;have HL2:=iH (HL1.out.keep IntC.holds hkp nL);have HO2:=iH (HO1.out.keep IntC.holds hkp nL);have HB2:=iH (HB1.out.trans hb2);clear hkp hS2 hb2 HS1 HL1 HO1 HX1 HB1 HRA;obtain⟨t2,ht2⟩:∃t,t=Fq (woF k.x l) k.ci k.y k.b:=⟨_,rfl⟩;rw[<-ht2];have HT2:=iH ht2;clear ht2
  cases t2 with
  |true =>
   have HQ:Hid (Ci k.x k.ci k.y k.b l o=false):=by show _=_;unfold Ci;rw[<-HT1.out,<-HT2.out];rfl
   go_wp2
   go_ret;exact⟨Ab HQ.out.symm,HS2,HB2⟩
  |false =>
   have HQ:Hid (Ci k.x k.ci k.y k.b l o=!Oe (woF k.x (l++o)) k.ci k.y k.b):=by show _=_;unfold Ci;rw[<-HT1.out,<-HT2.out];rfl
   clear HT1 HT2;go_upto_region 4 with fail;refine wp_region_held_drew (S:=λwy=>Blk w.heap.size (Co k ag ng cg) 112 wy) (by kernel_rfl) HX2.out.drew (λhS=>?_);have hd:Below w2.heap.size w2 w2.drew:=(Below.refl _ w2).drew;replace HS2:=iH (HS2.out.below HK hd);replace HL2:=qSl IntC.holds HL2 hd;replace HO2:=qSl IntC.holds HO2 hd;replace HB2:=iH (HB2.out.trans (Bt2.of_below hd));replace HX2:=iH HX2.out.drew;clear hd;generalize w2.drew=wn at *;have hlwn:w.heap.size<wn.heap.size:=HX2.out.lt;refine tz 0 23 (.pointer (some ⟨w.heap.size,0,none⟩)) ?_;refine tk 1 ⟨some 24,_,_,_,_,none⟩ (.agg (Ai k.p k.ci k.bi k.y k.a7 k.c7 k.b k.am k.cm k.u1 k.u2 k.u3)) rfl (yieldsIf_load_mid (by rfl) _ _ rfl w.heap.size 0 rfl (Ai k.p k.ci k.bi k.y k.a7 k.c7 k.b k.am k.cm k.u1 k.u2 k.u3).toList _ (λ_ h j v hj=>h.rangeA j v (by have hlt:j<24:=Ac hj;have h9:(Co k ag ng cg).toList=(Ai k.p k.ci k.bi k.y k.a7 k.c7 k.b k.am k.cm k.u1 k.u2 k.u3).toList++[.slice ag ng cg,.slice (some ⟨k.gp,0,none⟩) k.is.length k.is.length,.slice (some ⟨k.rb,0,none⟩) 7 k.rc]:=rfl;rw[h9,List.getElem?_append_left (by exact hlt)];exact hj)) underlying60 rfl Bk) hS ?_;refine tz 2 25 (.slice la l.length lc) ?_;refine tz 3 26 (.slice oa o.length oc) ?_;refine tz 6 29 (.func (.func 178) #[] #[.pointer (some ⟨w.heap.size,0,none⟩)]) ?_;refine rd1 4 ⟨some 27,_,_,_,_,none⟩ rfl (λKK hKK=>?_);go_simp;have hal:=(Below.refl _ wn).alloc nL (Obj.cells #[.slice la l.length lc,.slice oa o.length oc] 68);have HP:=iH (Blk.alloc wn #[.slice la l.length lc,.slice oa o.length oc] 68);replace HS2:=iH (HS2.out.below HK hal);replace HL2:=qSl IntC.holds HL2 hal;replace HO2:=qSl IntC.holds HO2 hal;replace HB2:=iH (HB2.out.trans (Bt2.of_below hal));replace HX2:=qBk HX2 hal;have hgp:=hlwn;refine hKK.out _ _ HX2 (λhS=>?_);clear hKK KK hal;generalize wn.heap.size=gq at *;generalize wn.alloc (Obj.cells #[.slice la l.length lc,.slice oa o.length oc] 68)=wn at *;refine rd1 5 ⟨some 28,_,_,_,_,none⟩ rfl (λKK hKK=>?_);go_simp;refine(zY l o la lc oa oc k.L0 gq 2 wn HL2 HO2 HP hs hso).mono ?_;rintro e w4⟨ra,rc,rfl,hr,hb4⟩;have HR4:Hid (SliceC IntC 1 k.L0 w4 ra (plI (l++o))):=hr.keep IntC.holds (Keeps.refl _ _) (by have:=HS2.out.size HK;omega);replace HS2:=iH (HS2.out.below HK hb4);replace HB2:=iH (HB2.out.trans (Bt2.of_below hb4));replace HX2:=qBk HX2 hb4;refine hKK.out _ _ HX2 (λhS=>?_);clear hKK KK hb4 hr HP HL2 HO2;refine rd1 7 ⟨some 30,_,_,_,_,none⟩ rfl (λKK hKK=>?_);go_simp;have hcl:=tK k HK (l++o) ra rc w.heap.size w4 HS2 HR4 (λe he=>(List.mem_append.1 he).elim (HM e) (HOM e)) (by rw[List.length_append];omega) hL (HX2.out.cell rfl);simp only[List.length_append]at hcl;refine hcl.mono ?_;rintro e w5⟨rfl,hS5,hb5⟩;have hlw4:w.heap.size<w4.heap.size:=HX2.out.lt;have HX5:Hid (Blk w.heap.size (Co k ag ng cg) 112 w5):=(hb5.2.2 w.heap.size hlw4 (by omega) (by omega)).trans HX2
   have HS5:=iH hS5;have HB5:=iH (HB2.out.trans hb5);refine hKK.out _ _ HX5 (λhS=>?_);clear hKK KK hcl hS5 hb5 HS2 HB2 HX2 HR4;obtain⟨t3,ht3⟩:∃t,t=Oe (woF k.x (l++o)) k.ci k.y k.b:=⟨_,rfl⟩;rw[<-ht3];rw[<-ht3]at HQ;clear ht3;refine tz 8 31 (.bool (!t3)) ?_;refine tz 9 6 (.bool (!t3)) ?_;refine td ?_;clear hS
   go_wp2
   go_ret;exact⟨Ab HQ.out.symm,HS5,HB5⟩
end Go.Proofs.YtpidfnfilnkhkaaGreat
