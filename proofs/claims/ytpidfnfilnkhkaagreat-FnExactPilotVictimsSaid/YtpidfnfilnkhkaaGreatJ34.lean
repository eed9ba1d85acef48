import Derived.Test.YtpidfnfilnkhkaaGreatVcp
import Derived.Test.YtpidfnfilnkhkaaGreatJ33
set_option maxHeartbeats 4000000
set_option maxRecDepth 100000
namespace Go.Proofs.YtpidfnfilnkhkaaGreat
open Go.RowKit Tryz
theorem Qk{f g:Nat->Bool}(h:∀k,f k=true->g k=true):∀n,Cd f n=true->Cd g n=true
 |0,e=>e
 |n+1,e=>by
  simp only[Cd,Bool.or_eq_true]at e⊢;rcases e with e|e
  .exact .inl (Qk h n e)
  .exact .inr (h n e)
theorem dE{f:Nat->Bool}:∀{n:Nat},Cd f n=true->∃k,k<n/\f k=true
 |0,e=>by cases e
 | n+1,e=>by
  simp only[Cd,Bool.or_eq_true]at e;rcases e with e|e
  .obtain⟨k,h1,h2⟩:=dE e
   exact⟨k,by omega,h2⟩
  .exact⟨n,by omega,e⟩
theorem Tl{f:Nat->Bool}:∀{n k:Nat},k<n->f k=true->Cd f n=true
 |0,k,h,_=>by omega
 |n+1,k,h,e=>by
  simp only[Cd,Bool.or_eq_true];by_cases q:k=n
  .subst q;exact .inr e
  .exact .inl (Tl (by omega) e)
theorem sZ(pl:List Nat)(p:Nat->Bool)(f:Nat->Bool)(h:∀i q,pl[i]?=some q->f i=p q):∀k,k<=pl.length->Bp f k=(pl.take k).countP p
 |0,_=>by simp[Bp]
 |k+1,hk=>by
  have hq:pl[k]?=some pl[k]:=gE (by omega);have ih:=sZ pl p f h k (by omega);rw[show Bp f (k+1)=Bp f k+(if f k then 1 else 0)from rfl,List.take_add_one,hq,List.countP_append,ih,h k _ hq];simp only[Option.toList_some,List.countP_cons,List.countP_nil]
  split<;>omega
def svP(x:Flt)(s p:Nat):Bool:=decide (lR x p=some s)
theorem sJ(x:Flt)(pl:List Nat)(s:Nat):Bp (goF x pl s) pl.length=pl.countP (svP x s):=by
 have h:=sZ pl (svP x s) (goF x pl s) (λi q hq=>by unfold goF svP;rw[hq]) pl.length nL;rw[List.take_length]at h;exact h
theorem gP{x:Flt}{q h:List Nat}(hs:q.Sublist h)(hl:Ft x h):Ft x q:=by
 intro s hsl h0;have h1:=hs.countP_le (p:=svP x s);rw[sJ]at h0⊢;have h2:=hl s hsl;rw[sJ]at h2;have:=h2 (by omega);omega
theorem mY(x:Flt):Ft x []:=by
 intro s _ h0;simp[Bp]at h0
def Oe(x:Flt)(ci:Nat)(y:Cpy)(b:Brt):Bool :=
 b.closed||(Hn y b||(!Dg y.select b.marks b.zone||(Gn x ci y b||(decide (10<=Ba x ci b.name x.copies.length)||(decide (b.room<Bn x ci b.name x.copies.length+y.room)||decide (b.hold<Bq x ci b.name x.copies.length+y.hold))))))
theorem qD(x:Flt)(ci:Nat)(y:Cpy)(b:Brt):Ed x ci y b false=0↔Oe x ci y b=false/\Fq x ci y b=false:=by
 unfold Ed Oe;simp only[Bool.not_false,Bool.and_true,Bool.or_eq_false_iff,Bool.not_eq_false',decide_eq_false_iff_not];constructor
 .intro h
  by_cases h1:b.closed=true
  .rw[if_pos h1]at h;omega
  rw[if_neg h1]at h;by_cases h2:Hn y b=true
  .rw[if_pos h2]at h;omega
  rw[if_neg h2]at h;by_cases h3:Dg y.select b.marks b.zone=false
  .rw[if_pos h3]at h;omega
  rw[if_neg h3]at h;by_cases h4:Gn x ci y b=true
  .rw[if_pos h4]at h;omega
  rw[if_neg h4]at h;by_cases h5:Fq x ci y b=true
  .rw[if_pos h5]at h;omega
  rw[if_neg h5]at h;by_cases h6:10<=Ba x ci b.name x.copies.length
  .rw[if_pos h6]at h;omega
  rw[if_neg h6]at h;by_cases h7:b.room<Bn x ci b.name x.copies.length+y.room
  .rw[if_pos h7]at h;omega
  rw[if_neg h7]at h;by_cases h8:b.hold<Bq x ci b.name x.copies.length+y.hold
  .rw[if_pos h8]at h;omega
  simp only[Bool.not_eq_true,Bool.not_eq_false]at h1 h2 h3 h4 h5;exact⟨⟨h1,h2,h3,h4,h6,h7,h8⟩,h5⟩
 .rintro⟨⟨h1,h2,h3,h4,h6,h7,h8⟩,h5⟩
  rw[h1,h2,h3,h4,h5,if_neg (by decide),if_neg (by decide),if_neg (by decide),if_neg (by decide),if_neg (by decide),if_neg h6,if_neg h7,if_neg h8]
theorem kR{x:Flt}{l:List Nat}{i:Nat}{c:Cpy}(h:(woF x l).copies[i]?=some c)(hc:¬c.at_=⟨#[]⟩):i∉l/\x.copies[i]?=some c:=by
 have h1:(atP l ⟨#[]⟩ x.copies)[i]?=some c:=h;rw[Cu]at h1;obtain⟨c0,h2,h3⟩:=Option.map_eq_some_iff.1 h1;by_cases hi:i∈l
 .rw[if_pos hi]at h3
  subst h3;exact absurd rfl hc
 .rw[if_neg hi]at h3
  subst h3;exact⟨hi,h2⟩
theorem lW{x:Flt}{l:List Nat}{i:Nat}{c:Cpy}(h:x.copies[i]?=some c)(hi:i∉l):(woF x l).copies[i]?=some c:=by
 show(atP l ⟨#[]⟩ x.copies)[i]?=some c
 rw[Cu,h];simp only[Option.map_some,if_neg hi]
theorem qH{x:Flt}{l1 l2:List Nat}(hl:∀e∈l1,e∈l2)(ci:Nat)(y:Cpy)(b:Brt)(h:Gn (woF x l2) ci y b=true):Gn (woF x l1) ci y b=true:=by
 unfold Gn at h⊢;have e1:(woF x l2).copies.length=(woF x l1).copies.length:=by show(atP _ _ _).length=(atP _ _ _).length;rw[Bz,Bz]
 rw[e1]at h;refine Qk (λi hi=>?_) _ h;unfold Nw at hi⊢
 cases hc:(woF x l2).copies[i]? with
 |none=>rw[hc]at hi;cases hi
 |some c =>
  rw[hc]at hi;simp only[Bool.and_eq_true,decide_eq_true_eq]at hi;obtain⟨h1,h2⟩:=kR hc hi.1.2;rw[lW h2 (λk=>h1 (hl i k))];simp only[Bool.and_eq_true,decide_eq_true_eq];exact hi
theorem wT{x:Flt}{l1 l2:List Nat}(hl:∀e∈l1,e∈l2)(ci:Nat)(sv z:BA)(i:Nat)(hi:znF (woF x l2) ci sv z i=true):znF (woF x l1) ci sv z i=true:=by
 unfold znF at hi⊢
 cases hc:(woF x l2).copies[i]? with
 |none=>rw[hc]at hi;cases hi
 |some c =>
  rw[hc]at hi;simp only[Bool.and_eq_true,decide_eq_true_eq]at hi;obtain⟨h1,h2⟩:=kR hc hi.1.2;rw[lW h2 (λk=>h1 (hl i k))];simp only[Bool.and_eq_true,decide_eq_true_eq];exact hi
theorem Ux{x:Flt}{l1 l2:List Nat}(hl:∀e∈l1,e∈l2)(hr:∀(k:Nat) (c:Cpy),x.copies[k]?=some c->0<=c.room/\0<=c.hold)(ci:Nat){nm:BA}(hn:¬nm=⟨#[]⟩):∀k,Ba (woF x l2) ci nm k<=Ba (woF x l1) ci nm k/\Bn (woF x l2) ci nm k<=Bn (woF x l1) ci nm k/\Bq (woF x l2) ci nm k<=Bq (woF x l1) ci nm k
 |0=>by simp[Ba,Bn,Bq]
 | k+1=>by
  have ih:=Ux hl hr ci hn k;have hp:∀c,(woF x l1).copies[k]?=some c->0<=c.room/\0<=c.hold:=by
   intro c hc;have h1:(atP l1 ⟨#[]⟩ x.copies)[k]?=some c:=hc;rw[Cu]at h1;obtain⟨c0,h2,h3⟩:=Option.map_eq_some_iff.1 h1;have:=hr k c0 h2;by_cases hi:k∈l1
   .rw[if_pos hi]at h3;subst h3;exact this
   .rw[if_neg hi]at h3;subst h3;exact this
  unfold Ba Bn Bq
  cases hc:(woF x l2).copies[k]? with
  | none =>
   have h1:x.copies[k]?=none:=by
    have h1:(atP l2 ⟨#[]⟩ x.copies)[k]?=none:=hc;rw[Cu]at h1;exact Option.map_eq_none_iff.1 h1
   have h2:(woF x l1).copies[k]?=none:=by
    show(atP l1 ⟨#[]⟩ x.copies)[k]?=none
    rw[Cu,h1];rfl
   rw[h2];simp only;omega
  | some c =>
   by_cases hat:c.at_=nm/\k≠ci
   .have hne:¬c.at_=⟨#[]⟩:=by rw[hat.1];exact hn
    obtain⟨h1,h2⟩:=kR hc hne;rw[lW h2 (λq=>h1 (hl k q))];simp only;rw[if_pos hat,if_pos hat,if_pos hat];omega
   .simp only
    rw[if_neg hat,if_neg hat,if_neg hat]
    cases h1:(woF x l1).copies[k]? with
    |none=>simp only;omega
    |some d =>
     have:=hp d h1;simp only
     split<;>omega
theorem uO{x:Flt}(hv:Au x=true){l1 l2:List Nat}(hl:∀e∈l1,e∈l2)(ci:Nat)(y:Cpy){b:Brt}{bi:Nat}(hb:x.berths[bi]?=some b)(h:Oe (woF x l1) ci y b=false):Oe (woF x l2) ci y b=false:=by
 have hm:=Bb hv;have ha:=De hv;have h9:=Ux (x:=x) hl (λk c hc=>⟨((hm.2.2.2 k c hc).1).1,((ha.1 k c hc).1).1⟩) ci (Iy (hm.2.2.1 bi b hb).1) x.copies.length;unfold Oe at h⊢;simp only[Bool.or_eq_false_iff,Bool.not_eq_false',decide_eq_false_iff_not]at h⊢;have e1:(woF x l1).copies.length=x.copies.length:=Bz _ _ _;have e2:(woF x l2).copies.length=x.copies.length:=Bz _ _ _;rw[e1]at h;rw[e2];obtain⟨h1,h2,h3,h4,h5,h6,h7⟩:=h;refine⟨h1,h2,h3,?_,?_,?_,?_⟩
 .cases e:Gn (woF x l2) ci y b with
  |false=>rfl
  |true=>rw[qH hl ci y b e]at h4;cases h4
 .omega
 .omega
 .omega
theorem rP{x:Flt}(hv:Au x=true){l1 l2:List Nat}(hl:∀e∈l1,e∈l2)(ci:Nat)(y:Cpy){b:Brt}{bi:Nat}(hb:x.berths[bi]?=some b)(hon:∀e∈l2,∀c,x.copies[e]?=some c->c.at_=b.name)(h:Fq (woF x l1) ci y b=true):Fq (woF x l2) ci y b=true:=by
 have hm:=Bb hv;have e1:(woF x l1).copies.length=x.copies.length:=Bz _ _ _;have e2:(woF x l2).copies.length=x.copies.length:=Bz _ _ _;have hz:Dc x.berths b.name=b.zone:=by
  obtain⟨b',q1,q2,q3⟩:=aO hm.2.1 (hm.2.1.last (Cl (f:=(·.name)) hb) (Ac hb));rw[hb]at q1;cases q1
  exact q3
 unfold Fq at h⊢;rw[e1]at h;rw[e2];simp only[Bool.and_eq_true,Bool.or_eq_true,Bool.not_eq_true',decide_eq_true_eq]at h⊢;obtain⟨⟨h1,h2⟩,h3⟩:=h;refine⟨⟨h1,?_⟩,?_⟩
 .cases e:Cd (znF (woF x l2) ci y.near b.zone) x.copies.length with
  |false=>rfl
  |true=>rw[Qk (λi hi=>wT hl ci _ _ i hi) _ e]at h2;cases h2
 .rcases h3 with h3|h3
  .refine .inl ?_
   obtain⟨i,hi,hs⟩:=dE h3;refine Tl hi ?_;unfold stF at hs⊢
   cases hc:(woF x l1).copies[i]? with
   |none=>rw[hc]at hs;cases hs
   | some c =>
    rw[hc]at hs;simp only[Bool.and_eq_true,decide_eq_true_eq]at hs;obtain⟨k1,k2⟩:=kR hc hs.2;by_cases hil:i∈l2
    .exfalso
     have hcb:=hon i hil c k2;have:znF (woF x l1) ci y.near b.zone i=true:=iZ hc hs.1.1 hs.1.2 hs.2 (by show Dc x.berths c.at_=b.zone;rw[hcb];exact hz);rw[Tl hi this]at h2;cases h2
    .rw[lW k2 hil]
     simp only[Bool.and_eq_true,decide_eq_true_eq];exact hs
  .exact .inr h3
def rkV(x:Flt)(i:Nat):Int:=match x.copies[i]? with
 |some c=>c.rank
 |none=>0
def onV(x:Flt)(y:Cpy)(b:Brt)(i:Nat):Bool:=match x.copies[i]? with
 |some c=>decide (c.at_=b.name)&&decide (c.rank<y.rank)
 |none=>false
def Bc(x:Flt)(y:Cpy)(b:Brt):List Nat:=(List.range x.copies.length).filter (onV x y b)
theorem Gf{x:Flt}{y:Cpy}{b:Brt}{i:Nat}(h:i∈Bc x y b):∃c,x.copies[i]?=some c/\c.at_=b.name/\c.rank<y.rank:=by
 have h1:=(List.mem_filter.1 h).2;unfold onV at h1
 cases hc:x.copies[i]? with
 |none=>rw[hc]at h1;cases h1
 |some c =>
  rw[hc]at h1;simp only[Bool.and_eq_true,decide_eq_true_eq]at h1;exact⟨c,rfl,h1.1,h1.2⟩
theorem Jj(x:Flt)(y:Cpy)(b:Brt):(Bc x y b).Pairwise (·<·):=List.pairwise_lt_range.filter _
def cQ(x:Flt)(ci:Nat)(y:Cpy)(b:Brt)(l:List Nat):Bool:=decide (Ed (woF x l) ci y b false=0)
def okV(x:Flt)(ci:Nat)(y:Cpy)(b:Brt)(l:List Nat):Prop:=Ft x l/\cQ x ci y b l=true
def lcB(x:Flt)(l:List Nat):Bool:=(List.range x.services.length).all λs=>decide (Bp (goF x l s) l.length=0)||decide (((Bp (goF x l s) l.length:Nat):Int)<=Gh x s x.copies.length)
theorem bE(x:Flt)(l:List Nat):lcB x l=true↔Ft x l:=by
 unfold lcB Ft;simp only[List.all_eq_true,List.mem_range,Bool.or_eq_true,decide_eq_true_eq];constructor
 .intro h s hs h0
  rcases h s hs with k|k
  .omega
  .exact k
 .intro h s hs
  by_cases k:Bp (goF x l s) l.length=0
  .exact .inl k
  .exact .inr (h s hs (by omega))
def Ci(x:Flt)(ci:Nat)(y:Cpy)(b:Brt)(l all:List Nat):Bool:=lcB x l&&!Fq (woF x l) ci y b&&!Oe (woF x (l++all)) ci y b
theorem cX{x:Flt}(hv:Au x=true)(ci:Nat)(y:Cpy){b:Brt}{bi:Nat}(hb:x.berths[bi]?=some b){gs:List (List Nat)}(hg:Grp (rkV x) gs)(hmem:∀e,e∈Bc x y b↔∃g∈gs,e∈g){f:Nat}(hf:(Bc x y b).length<=f) :
  (∀g,(Dy (Ci x ci y b) f [[]] gs).find? (cQ x ci y b)=some g->Best (rkV x) (Bc x y b) (okV x ci y b) g)/\((Dy (Ci x ci y b) f [[]] gs).find? (cQ x ci y b)=none->∀h,h.Sublist (Bc x y b)->¬okV x ci y b h):=by
 refine pW (sp:=Ft x) (Jj x y b) hg hmem hf ?_ (mY x) (λl=>Iff.rfl) ?_
 .intro l g h
  unfold Ci at h;simp only[Bool.and_eq_true]at h;exact(bE x l).1 h.1.1
 .rintro h hs⟨h1,h2⟩Q all hQ hQh hall
  have hz:=(qD _ _ _ _).1 (of_decide_eq_true h2);have hsub:Q.Sublist h:=Hy hQ ((Jj x y b).sublist hs) hQh;unfold Ci;simp only[Bool.and_eq_true,Bool.not_eq_true'];refine⟨⟨(bE x Q).2 (gP hsub h1),?_⟩,uO hv (λe he=>List.mem_append.2 (hall e he)) ci y hb hz.1⟩
  cases e:Fq (woF x Q) ci y b with
  |false=>rfl
  | true =>
   have:=rP hv hQh ci y hb (λe he c hc=>by
    obtain⟨c',k1,k2,_⟩:=Gf (hs.subset he);rw[hc]at k1;cases k1
    exact k2) e
   rw[hz.2]at this;cases this
open Go.WideMaps Go.Maps Tryz
def gW(x:Flt)(ci:Nat)(y:Cpy)(b:Brt)(u1 u2 u3:Int):List (Int×Nat×Bool):=[(1,117,b.closed),(2,137,Hn y b),(3,138,!Dg y.select b.marks b.zone),(4,139,Gn x ci y b),(6,141,decide (10<=u1)),(7,142,decide (b.room<u2+y.room)),(8,143,decide (b.hold<u3+y.hold))]
abbrev Pq:List Value:=[.int .i64 1,.func (.func 117) #[] #[],.int .i64 2,.func (.func 137) #[] #[],.int .i64 3,.func (.func 138) #[] #[],.int .i64 4,.func (.func 139) #[] #[],.int .i64 6,.func (.func 141) #[] #[],.int .i64 7,.func (.func 142) #[] #[],.int .i64 8,.func (.func 143) #[] #[]]
theorem bU{x:Flt}{ci:Nat}{y:Cpy}{b:Brt}{u1 u2 u3:Int}{r:Int×Nat×Bool}(h:r∈gW x ci y b u1 u2 u3):r∈Kh x ci y b u1 u2 u3:=by
 unfold gW at h;unfold Kh cT;simp only[List.mem_cons,List.not_mem_nil,or_false]at h⊢;rcases h with h|h|h|h|h|h|h<;>simp[h]
theorem pE{x:Flt}{ci:Nat}{y:Cpy}{b:Brt}{u1 u2 u3:Int}(h1:u1=Ba x ci b.name x.copies.length)(h2:u2=Bn x ci b.name x.copies.length)(h3:u3=Bq x ci b.name x.copies.length):(!decide (Fw (gW x ci y b u1 u2 u3)=0))=Oe x ci y b:=by
 unfold gW Oe;rw[h1,h2,h3];simp only[Fw];cases b.closed
 .cases Hn y b
  .cases Dg y.select b.marks b.zone
   .rfl
   .cases Gn x ci y b
    .by_cases h4:10<=Ba x ci b.name x.copies.length
     .simp[h4]
     .by_cases h5:b.room<Bn x ci b.name x.copies.length+y.room
      .simp[h4,h5]
      .by_cases h6:b.hold<Bq x ci b.name x.copies.length+y.hold
       .simp[h4,h5,h6]
       .simp[h4,h5,h6]
    .rfl
  .rfl
 .rfl
theorem oQ{rb:Nat}{w:World}(x:Flt)(ci:Nat)(y:Cpy)(b:Brt)(u1 u2 u3:Int)(h:w.rangeAt rb 0 Pq):qQ rb (gW x ci y b u1 u2 u3) w:=by
 intro k r hk;have hk8:k<7:=(List.getElem?_eq_some_iff.1 hk).1;have hc:k=0\/k=1\/k=2\/k=3\/k=4\/k=5\/k=6:=by omega
 rcases hc with rfl|rfl|rfl|rfl|rfl|rfl|rfl
 .cases hk
  exact⟨by simpa using h 0 _ rfl,by simpa using h 1 _ rfl⟩
 .cases hk
  exact⟨by simpa using h 2 _ rfl,by simpa using h 3 _ rfl⟩
 .cases hk
  exact⟨by simpa using h 4 _ rfl,by simpa using h 5 _ rfl⟩
 .cases hk
  exact⟨by simpa using h 6 _ rfl,by simpa using h 7 _ rfl⟩
 .cases hk
  exact⟨by simpa using h 8 _ rfl,by simpa using h 9 _ rfl⟩
 .cases hk
  exact⟨by simpa using h 10 _ rfl,by simpa using h 11 _ rfl⟩
 .cases hk
  exact⟨by simpa using h 12 _ rfl,by simpa using h 13 _ rfl⟩
theorem uH(lo p m1 m2 m3 m4 ci bi:Nat)(x:Flt)(a1:OA)(c1:Nat)(a2:OA)(c2:Nat)(a3:OA)(c3:Nat)(y:Cpy)(a7:OA)(c7:Nat)(b:Brt)(am:OA)(cm:Nat)(u1 u2 u3:Int)(cb rb rc:Nat)(w:World)(hK:SpotK w lo ci bi x a1 a3 y a7 b am)(g1:u1=Ba x ci b.name x.copies.length)(g2:u2=Bn x ci b.name x.copies.length)(g3:u3=Bq x ci b.name x.copies.length)(h2:0<=u2/\u2<=60000)(h3:0<=u3/\u3<=60000)(hF:FoundM p m1 m2 m3 m4 (y.select,bi) x a1 c1 a2 c2 a3 c3 w)(hcb:w.cell? ⟨cb,26,none⟩=some (.slice (some ⟨rb,0,none⟩) 7 rc))(hR:w.rangeAt rb 0 Pq)(hrb:rb<w.heap.size)(hrm:rb≠m4) :
  Calls prog 178 #[.agg (Ai p ci bi y a7 c7 b am cm u1 u2 u3),.pointer (some ⟨cb,0,none⟩)] w λe w'=>e=.returned (.bool (Oe x ci y b))/\MemoAt m4 (y.select,bi) x.berths w'/\But m4 w.heap.size w w':=by
 have hcl:=block_lt_of_cell hcb;have hb0:=(Below.refl _ w).alloc nL (Obj.cells (Ai p ci bi y a7 c7 b am cm u1 u2 u3) 60);have HX:=iH (Blk.alloc w (Ai p ci bi y a7 c7 b am cm u1 u2 u3) 60);have HF0:=iH (hF.below hb0);have HK0:=iH (hK.keep (Keeps.of_below hb0 nL lo));have HB0:Hid (But m4 w.heap.size w (w.alloc (Obj.cells (Ai p ci bi y a7 c7 b am cm u1 u2 u3) 60))):=But.of_below hb0;have HR0:=iH (oQ x ci y b u1 u2 u3 (Ae hR hb0 hrb));have hs0:w.heap.size<(w.alloc (Obj.cells (Ai p ci bi y a7 c7 b am cm u1 u2 u3) 60)).heap.size:=by simp
 have k26:=(hb0.cell (p:=⟨cb,26,none⟩) hcl).trans hcb;obtain⟨fr,hfr⟩:∃fr,fr=Fw (gW x ci y b u1 u2 u3):=⟨_,rfl⟩;have HBV:Hid ((!decide (fr=0))=Oe x ci y b):=by rw[hfr];exact pE g1 g2 g3
 have HFR:=iH hfr;clear hK hF hcb hR hfr g1 g2 g3;go_enter func178,ntmps178;go_upto_region 1 with fail;clear hb0;generalize w.alloc (Obj.cells (Ai p ci bi y a7 c7 b am cm u1 u2 u3) 60)=w0 at *;go_wp2_with(first|(refine wpList_load_mid rfl 60 _ rfl w.heap.size 0 (by first|rfl|(simp[go_sem];done)) (Ai p ci bi y a7 c7 b am cm u1 u2 u3).toList _ HX.out.rangeA underlying60 rfl Bk ?_));refine(Sj lo p m1 m2 m3 m4 ci bi x a1 c1 a2 c2 a3 c3 y a7 c7 b am cm u1 u2 u3 (gW x ci y b u1 u2 u3) rb rc w0 HK0 (show 7<=8 by decide) (λW hk k r h=>Yn W lo p m1 m2 m3 m4 ci bi x a1 c1 a2 c2 a3 c3 y a7 c7 b am cm u1 u2 u3 hk h2 h3 r (bU (List.mem_of_getElem? h))) (λk r h=>Rx x ci y b u1 u2 u3 r (bU (List.mem_of_getElem? h))) HF0 HR0 (by omega) hrm).mono ?_;rintro e w4⟨rfl,hm5,hb4⟩;have HB4:Hid (But m4 w.heap.size w w4):=HB0.out.trans (hb4.mono (by omega));have HM4:=iH hm5;rw[<-HFR.out];clear hm5 hb4;by_cases hz:fr=0
 .have e0:decide (fr=0)=true:=decide_eq_true hz
  have HQ:Hid (Oe x ci y b=false):=by show _=_;rw[<-HBV.out,e0];rfl
  rw[hz];clear e0 hz
  go_wp2
  go_ret;exact⟨Ab HQ.out.symm,HM4,HB4⟩
 .have e0:decide (fr=0)=false:=decide_eq_false hz
  have HQ:Hid (Oe x ci y b=true):=by show _=_;rw[<-HBV.out,e0];rfl
  go_wp2
  go_ret;exact⟨Ab (by rw[HQ.out];simpa using hz),HM4,HB4⟩
end Go.Proofs.YtpidfnfilnkhkaaGreat
