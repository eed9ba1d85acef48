import Derived.Test.YtpidfnfilnkhkaaGreatJ30
set_option maxHeartbeats 2000000
set_option maxRecDepth 100000
namespace Go.Proofs.YtpidfnfilnkhkaaGreat
open Go.RowKit Go.WideMaps Go.Maps Tryz
theorem Xk{w:World}{base:Nat}{e:TypeId}{v:Value}{is:List Int}(h:w.ownsRow base e 1 v is.length (inV is))(hm:is.length<=maxLen):∃a c,v=.slice a is.length c/\SliceC IntC 1 base w a is:=by
 rcases h.2 with⟨hv,h0⟩|⟨g,cap,cur,hv,hb,hg,_⟩
 .have:is=[]:=List.length_eq_zero_iff.1 h0
  subst this;exact⟨none,0,hv,SliceC.nil⟩
 .subst hv
  refine⟨_,cap,rfl,hm,.inr ⟨g,0,rfl,⟨hb,λ_ p=>h.frozenAt p⟩,(Array.getElem?_eq_some_iff.1 hg).1,λj x hj=>?_⟩⟩;have hlt:=Ac hj;have:=h.cellAt (j*1+0) (by simp;omega);simp only[Nat.mul_one,Nat.add_zero,List.getElem?_map,hj,Option.map_some]at this;show _=_
  simpa using this
abbrev plI(pl:List Nat):List Int:=pl.map λk=>((k:Nat):Int)
theorem Ro{pl:List Nat}{j q:Nat}(h:pl[j]?=some q):(plI pl)[j]?=some (q:Int):=by
 rw[List.getElem?_map,h];rfl
theorem AJ{x:Flt}{pl:List Nat}{k q s:Nat}{c:Cpy}(hq:pl[k]?=some q)(hc:x.copies[q]?=some c)(hs:Al (svN x) c.service x.services.length=some s):goF x pl s k=true/\∀t,t≠s->goF x pl t k=false:=by
 unfold goF lR;rw[hq];simp only[hc,hs];exact⟨by simp,λt ht=>by simp;exact λe=>ht e.symm⟩
def BJ(x:Flt)(pl:List Nat)(k:Nat)(is:List Int):Prop:=is.length=x.services.length/\(∀s,s<x.services.length->is[s]?=some (Gh x s x.copies.length-(Bp (goF x pl s) k:Nat)))/\∀s,s<x.services.length->0<Bp (goF x pl s) k->((Bp (goF x pl s) k:Nat):Int)<=Gh x s x.copies.length
theorem jS(p m2:Nat)(x:Flt)(a3:OA)(c3 lo lo2:Nat)(pl:List Nat)(pa:OA)(pc:Nat)(is:List Int)(g base:Nat)(w:World)(p3:w.cell? ⟨p,3,none⟩=some (.slice a3 x.copies.length c3))(p5:w.cell? ⟨p,5,none⟩=some (.map (some m2)))(o2:w.ownsMap prog 9 (plainElem prog 3) m2 x.services.length (Ah (svN x) x.services.length))(n3:SliceC CpyC 12 lo w a3 x.copies)(l2:x.services.length<=30)(l3:x.copies.length<=60)(hsp:∀(k:Nat) (y:Svc),x.services[k]?=some y->0<=y.spare/\y.spare<=60)(hsv:∀(k:Nat) (c:Cpy),x.copies[k]?=some c->∃s,Al (svN x) c.service x.services.length=some s)(hpl:SliceC IntC 1 lo2 w pa (plI pl))(hsm:pl.length<=1048576)(hin:∀(j q:Nat),pl[j]?=some q->q<x.copies.length)(hS:Ti x x.copies.length is)(hI:w.ownsRow base 3 1 (.slice (some ⟨g,0,none⟩) is.length is.length) is.length (inV is)) :
  Calls prog 177 #[.pointer (some ⟨p,0,none⟩),.slice pa pl.length pc,.slice (some ⟨g,0,none⟩) is.length is.length] w λe w'=>∃b,e=.returned (.bool b)/\(b=true↔Ft x pl)/\Below w.heap.size w w':=by
 have N3:=iH n3;have O2:=iH o2;have hpp:p<w.heap.size:=block_lt_of_cell p3;have hm2:m2<w.heap.size:=o2.lt;have P5:=iH p5;have P3:=iH p3;have HSP:=iH hsp;have HSV:=iH hsv;have HPL:=iH hpl;have HIN:=iH hin;have HS:=iH hS;have HI:=iH hI;have HIL:Hid (is.length=x.services.length):=hS.1;clear n3 o2 p3 p5 hsp hsv hpl hin hS hI;go_enter func177,ntmps177;go_wp2_with fail;refine(iX is g _ base _ HI (by have:=HIL.out;omega)).mono ?_;rintro e w1⟨v,rfl,hown,hb1⟩;have HB1:=iH hb1;have HR:Hid (∃h cap,v=.slice (some ⟨h,0,none⟩) is.length cap/\w.heap.size<=h)\/is.length=0:=by
  by_cases h0:is.length=0
  .exact Or.inr h0
  .obtain⟨h,cap,e,hb,_⟩:=World.ownsRow.form hown (by omega)
   exact Or.inl ⟨h,cap,e,hb⟩
 have HO1:=iH hown;clear hown hb1 HI
 go_wp2
 go_loopw [15] (λi wr=>∃(k:Nat)(js:List Int),k<=pl.length/\i=.int .i64 k/\Hid (BJ x pl k js)/\Hid (wr.ownsRow w.heap.size 3 1 v is.length (inV js))/\Hid (Below w.heap.size w wr)) (λi _=>pl.length-(intOf i).toNat)
 case atStart =>
  refine⟨0,is,zL,rfl,⟨HIL,λs hs=>?_,λs _ h=>absurd h (by simp[Bp])⟩,HO1,HB1⟩;rw[HS.out.2 s hs];simp[Bp]
 case round =>
  clear HO1 HB1;obtain⟨k,js,hk,rfl,hF,hO,hB⟩:=hrel;by_cases hlt:k<pl.length
  .obtain⟨q,hq⟩:=gXe hlt
   have hqc:=HIN.out k q hq;obtain⟨y,hy⟩:=gXe hqc;obtain⟨s,hs⟩:=HSV.out q y hy;have hsl:s<x.services.length:=(Du hs).1;have hjl:js.length=x.services.length:=hF.out.1;obtain⟨h,cap,rfl,hbh⟩:=(HR.resolve_right (by have:=HIL.out;omega)).out;obtain⟨b',o',rfl,_,_,hcp⟩:=(HPL.out.below IntC.holds hB.out nL).at (Ro hq);have t0:_=_:=hcp;simp only[Nat.mul_one,Nat.add_zero]at t0;obtain⟨b,o,rfl,_,_,hc⟩:=(N3.out.below CpyC.holds hB.out nL).at hy;obtain⟨a7,c7,q0,q1,q2,q3,q4,q5,q6,q7,q8,q9,q10,q11,z0,z1,z6,z9,z10,z11,z7⟩:=hc;have HG:=iH (AJ hq hy hs);have PA:wr.cell? ⟨p,3,none⟩=some (.slice (some ⟨b,o,none⟩) x.copies.length c3):=(hB.out.cell (p:=⟨p,3,none⟩) hpp).trans P3;have PB:wr.cell? ⟨p,5,none⟩=some (.map (some m2)):=(hB.out.cell (p:=⟨p,5,none⟩) hpp).trans P5;have yl:=Vs (s:=y.service) (Af O2 hB.out hm2).drew z1;rw[hs]at yl;simp only[Option.getD_some]at yl;obtain⟨iv,hiv⟩:∃iv,js[s]?=some iv:=⟨_,hF.out.2.1 s hsl⟩;have hie:iv=Gh x s x.copies.length-(Bp (goF x pl s) k:Nat):=by have:=hF.out.2.1 s hsl;rw[hiv]at this;injection this
   have hbd:-1048700<=iv/\iv<=60:=by
    have h1:=Jw (Mf x s) x.copies.length;have h3:=Jw (goF x pl s) k;have h2:=HSP.out s _ (gE hsl);rw[hie];unfold Gh Ht;rw[gE hsl];simp only;omega
   obtain⟨hb1,hb2⟩:=hbd;have hsl2:s<is.length:=by have:=HIL.out;omega
   have r0:wr.cell? ⟨h,s,none⟩=some (.int .i64 iv):=by
    rw[hO.out.cellAt s (by omega),List.getElem?_map,hiv];rfl
   have f0:wr.frozen? ⟨h,s,none⟩=false:=hO.out.frozenAt s;have HST:=iH (hO.out.stored s (.int .i64 (iv-1))).1;have r1:(wr.setCell ⟨h,s,none⟩ (.int .i64 (iv-1))).cell? ⟨h,s,none⟩=some (.int .i64 (iv-1)):=by
    rw[HST.out.cellAt s (by omega),List.getElem?_set_self (by have:=hO.out.1;omega)]
   have HIE:=iH hie;have HIV:=iH hiv;have hw0:h<wr.heap.size:=(hO.out.lt _ rfl).2;clear hq hy hs hie hiv hcp q0 q2 q3 q4 q5 q6 q7 q8 q9 q10 q11 z0 z1 z6 z9 z10 z11 z7;by_cases hneg:iv-1<0
   .have HC:Hid (¬Ft x pl):=by
     intro hl;have h1:=hl s hsl;have h2:=Ts (goF x pl s) pl.length (k+1) (by omega);rw[Gr HG.out.1]at h2;have h3:=HIE.out;have h4:=h1 (by omega);omega
    go_wp2_with fail
    go_region
    go_wp2
    go_ret;exact⟨false,rfl,⟨(λh=>by cases h),(λh=>absurd h HC)⟩,(hB.out.setCell hbh _).drew⟩
   .go_wp2_with fail
    go_region
    go_wp2
    go_roundw
    case rel =>
     have h1:=HST.out;rw[lN]at h1;refine⟨k+1,js.set s (iv-1),by omega,by go_num,⟨by rw[List.length_set];exact hjl,λt ht=>?_,λt ht h0=>?_⟩,Ak h1 ((Below.refl _ _).drew),(hB.out.setCell hbh _).drew⟩
     .by_cases e:t=s
      .subst e
       rw[List.getElem?_set_self (by omega),HIE.out,Gr HG.out.1]
       congr 1
       omega
      .rw[List.getElem?_set_ne (by omega),hF.out.2.1 t ht,Ii (HG.out.2 t e)]
     .by_cases e:t=s
      .subst e
       rw[Gr HG.out.1];have:=HIE.out;omega
      .rw[Ii (HG.out.2 t e)]at h0⊢
       exact hF.out.2.2 t ht h0
    case measure=>simp[intOf];omega
  .have hke:k=pl.length:=by omega
   subst hke
   go_wp2
   go_ret;exact⟨true,rfl,⟨λ_ s hs h0=>hF.out.2.2 s hs h0,λ_=>rfl⟩,hB.out⟩
def CD(e:Ending)(q:Prop):Prop:=∃b,e=.returned (.bool b)/\(b=true↔q)
def CO(e:Ending)(q:Prop):Prop:=∃v b,e=.returned (.tuple #[v,.bool b])/\(b=true↔q)
def May(x:Flt)(gone:List BA):Prop:=MayA x gone gone.length/\MayC x gone x.services.length
def CQ(x:Flt)(gone:List BA):Prop:=Au x=true/\May x gone
structure Stp where
 copy:BA
 berth:BA
 gone:List BA
abbrev hhL(x:Stp)(a1:OA)(c1:Nat):List Value:=[.string x.copy,.string x.berth,.slice a1 x.gone.length c1]
abbrev hhA(x:Stp)(a1:OA)(c1:Nat):Array Value:=#[.string x.copy,.string x.berth,.slice a1 x.gone.length c1]
def StpC:En Stp:=λlo w f x=>∃(a2:OA)(c2:Nat),f 0=some (.string x.copy)/\f 1=some (.string x.berth)/\f 2=some (.slice a2 x.gone.length c2)/\x.copy.size<=maxLen/\x.berth.size<=maxLen/\SliceC StrC 1 lo w a2 x.gone
theorem StpC.holds:Holds StpC 3:=by
 rintro lo lo' w w' f g x h k hl⟨a2,c2,q0,q1,q2,z0,z1,n2⟩;exact⟨a2,c2,(h 0 (by omega)).trans q0,(h 1 (by omega)).trans q1,(h 2 (by omega)).trans q2,z0,z1,n2.keep StrC.holds k hl⟩
def atP(pl:List Nat)(s:BA)(l:List Cpy):List Cpy:=l.mapIdx λi c=>if i∈pl then{c with at_:=s}else c
theorem Cu(pl:List Nat)(s:BA)(l:List Cpy)(i:Nat):(atP pl s l)[i]?=l[i]?.map λc=>if i∈pl then{c with at_:=s}else c:=by
 simp[atP,List.getElem?_mapIdx]
theorem Bz(pl:List Nat)(s:BA)(l:List Cpy):(atP pl s l).length=l.length:=by simp[atP]
theorem mI(s:BA)(l:List Cpy):atP [] s l=l:=by
 apply List.ext_getElem?;intro i;rw[Cu];simp
theorem Nn(pl:List Nat)(s:BA)(l:List Cpy):(atP pl s l).map (·.name)=l.map (·.name):=by
 apply List.ext_getElem?;intro i;rw[List.getElem?_map,List.getElem?_map,Cu]
 cases l[i]? with
 |none=>rfl
 |some c =>
  simp only[Option.map_some]
  split<;>rfl
theorem eN{pl:List Nat}{s:BA}{l:List Cpy}{k q:Nat}{c:Cpy}(hk:pl[k]?=some q)(hc:(atP (pl.take k) s l)[q]?=some c):(atP (pl.take k) s l).set q {c with at_:=s}=atP (pl.take (k+1)) s l:=by
 apply List.ext_getElem?;intro i;have hlt:=Ac hc;have ht:pl.take (k+1)=pl.take k++[q]:=by rw[List.take_add_one,hk];rfl
 by_cases e:i=q
 .subst e
  rw[List.getElem?_set_self hlt,Cu,ht];rw[Cu]at hc;obtain⟨c0,h0,h1⟩:=Option.map_eq_some_iff.1 hc;rw[h0,<-h1];simp only[Option.map_some,List.mem_append,List.mem_singleton,or_true,if_true]
  split<;>rfl
 .rw[List.getElem?_set_ne (λh=>e h.symm),Cu,Cu,ht]
  simp only[List.mem_append,List.mem_singleton,e,or_false]
theorem qL{pl:List Nat}{s t:BA}{l:List Cpy}(h:∀q,q∈pl->∀c,l[q]?=some c->c.at_=s):atP pl s (atP pl t l)=l:=by
 apply List.ext_getElem?;intro i;rw[Cu,Cu]
 cases e:l[i]? with
 |none=>rfl
 | some c =>
  by_cases hi:i∈pl
  .simp only[Option.map_some,hi,if_true]
   rw[<-h i hi c e]
  .simp only[Option.map_some,hi,if_false]
def woF(x:Flt)(pl:List Nat):Flt:={x with copies:=atP pl ⟨#[]⟩ x.copies}
theorem dC{l:List Cpy}{pl:List Nat}{nm:BA}(hn:¬nm=⟨#[]⟩)(hr:∀(k:Nat) (c:Cpy),l[k]?=some c->(0<=c.room/\c.room<=1000)/\(0<=c.hold/\c.hold<=1000)):∀k:Nat,k<=60 ->
  (0<=(Ap (atP pl ⟨#[]⟩ l) nm (-1) k).1/\(Ap (atP pl ⟨#[]⟩ l) nm (-1) k).1<=(Ap l nm (-1) k).1/\(Ap l nm (-1) k).1<=k) /\
  (0<=(Ap (atP pl ⟨#[]⟩ l) nm (-1) k).2.1/\(Ap (atP pl ⟨#[]⟩ l) nm (-1) k).2.1<=(Ap l nm (-1) k).2.1/\(Ap l nm (-1) k).2.1<=1000*k) /\
  (0<=(Ap (atP pl ⟨#[]⟩ l) nm (-1) k).2.2/\(Ap (atP pl ⟨#[]⟩ l) nm (-1) k).2.2<=(Ap l nm (-1) k).2.2/\(Ap l nm (-1) k).2.2<=1000*k)
 |0,_=>by simp[Ap]
 | k+1,hk=>by
  have ih:=dC (pl:=pl) hn hr k (by omega)
  cases e:l[k]? with
  |none =>
   have e2:(atP pl ⟨#[]⟩ l)[k]?=none:=by rw[Cu,e];rfl
   simp only[Ap,e,e2];omega
  | some c =>
   have hc:=hr k c e;have hne:((k:Nat):Int)≠-1:=by omega
   by_cases hp:k∈pl
   .have e2:(atP pl ⟨#[]⟩ l)[k]?=some {c with at_:=⟨#[]⟩}:=by rw[Cu,e];simp only[Option.map_some,hp,if_true]
    simp only[Ap,e,e2];rw[if_neg (λh=>hn h.1.symm)];by_cases ha:c.at_=nm
    .rw[if_pos ⟨ha,hne⟩]
     unfold wrap64;simp only;omega
    .rw[if_neg (λh=>ha h.1)]
     omega
   .have e2:(atP pl ⟨#[]⟩ l)[k]?=some c:=by rw[Cu,e];simp only[Option.map_some,hp,if_false]
    simp only[Ap,e,e2];by_cases ha:c.at_=nm
    .rw[if_pos ⟨ha,hne⟩,if_pos ⟨ha,hne⟩]
     unfold wrap64;simp only;omega
    .rw[if_neg (λh=>ha h.1),if_neg (λh=>ha h.1)]
     omega
theorem cG{x:Flt}(hv:Au x=true)(pl:List Nat):Au (woF x pl)=true:=by
 have hm:=Bb hv;have ha:=De hv;have hl:=(Aw hv).2.1;unfold Au at hv⊢;simp only[Bool.and_eq_true]at hv⊢;obtain⟨h1,h2,h3,h4,h5,h6⟩:=hv;refine⟨?_,?_,h3,h4,?_,?_⟩
 .unfold Dm at h1⊢
  simp only[Bool.and_eq_true,decide_eq_true_eq]at h1;simp only[Bool.and_eq_true,decide_eq_true_eq];exact⟨h1.1,by rw[show(woF x pl).copies.length=x.copies.length from Bz _ _ _];exact h1.2⟩
 .unfold Eu at h2⊢
  simpa only[woF,Bz,Nn]using h2
 .unfold Bm at h5⊢
  rw[Lf]at h5⊢;intro k c hc;have hc':(atP pl ⟨#[]⟩ x.copies)[k]?=some c:=hc;rw[Cu]at hc';obtain⟨c0,h7,h8⟩:=Option.map_eq_some_iff.1 hc';have h9:=h5 k c0 h7;unfold Hi at h9⊢;by_cases hp:k∈pl
  .rw[if_pos hp]at h8
   rw[<-h8];simp only[Bool.and_eq_true,Bool.or_eq_true,decide_eq_true_eq]at h9⊢;exact⟨⟨h9.1.1,Or.inr rfl⟩,h9.2⟩
  .rw[if_neg hp]at h8
   rw[<-h8];exact h9
 .unfold Dd at h6⊢
  rw[Lf]at h6⊢;intro k b hb;have hb':x.berths[k]?=some b:=hb;have h7:=h6 k b hb';have h8:=dC (l:=x.copies) (pl:=pl) (nm:=b.name) (Iy (hm.2.2.1 k b hb').1) (λk c hc=>⟨(hm.2.2.2 k c hc).1,(ha.1 k c hc).1⟩) x.copies.length hl;unfold Hr at h7⊢;simp only[Bool.and_eq_true,decide_eq_true_eq,woF,Bz]at h7⊢;omega
def Jn(x:Flt)(gone:List BA):List Nat:=gone.map λg=>(Ei x.copies g).toNat
theorem BS{x:Flt}(hv:Au x=true){gone:List BA}{pl:List Nat}(h:PlOk (cpN x) gone gone.length pl):pl=Jn x gone:=by
 obtain⟨_,_,_,hc,_,_⟩:=Aw hv;apply List.ext_getElem?;intro i;unfold Jn;rw[List.getElem?_map]
 cases e:gone[i]? with
 |none =>
  have:=List.getElem?_eq_none_iff.1 e;rw[List.getElem?_eq_none (by rw[h.1];exact this)];rfl
 |some g =>
  obtain⟨p,h1,h2⟩:=h.2 i g (Ac e) e;rw[List.length_map]at h2;rw[h1,Option.map_some,(Hz hc h2).1];rfl
def zU(x:Flt)(s:Stp)(ci bi:Nat)(y:Cpy)(b:Brt):Prop:=Ir x s.copy s.berth=some (ci,bi)/\x.copies[ci]?=some y/\x.berths[bi]?=some b/\y.at_=⟨#[]⟩/\May x s.gone/\(∀q,q∈Jn x s.gone->∀c,x.copies[q]?=some c->c.at_=s.berth)/\Ed (woF x (Jn x s.gone)) ci y b false=0
def doF(x:Flt)(s:Stp)(ci:Nat)(y:Cpy):Flt:={x with copies:=(atP (Jn x s.gone) ⟨#[]⟩ x.copies).set ci {y with at_:=s.berth}}
def noF:Flt:=⟨false,[],[],[]⟩
def DoRes(x:Flt)(s:Stp)(r:Flt)(t:Bool):Prop:=(t=true/\∃ci bi y b,zU x s ci bi y b/\r=doF x s ci y)\/(t=false/\(∀ci bi y b,¬zU x s ci bi y b)/\r=noF)
theorem DoRes.one{x:Flt}{s:Stp}{r r':Flt}{t t':Bool}(h:DoRes x s r t)(h':DoRes x s r' t'):r=r'/\t=t':=by
 rcases h with⟨rfl,ci,bi,y,b,hd,rfl⟩|⟨rfl,hn,rfl⟩<;>rcases h' with⟨rfl,ci',bi',y',b',hd',rfl⟩|⟨rfl,hn',rfl⟩
 .have e1:=hd.1.symm.trans hd'.1
  cases e1
  have e2:=hd.2.1.symm.trans hd'.2.1;cases e2
  exact⟨rfl,rfl⟩
 .exact absurd hd (hn' _ _ _ _)
 .exact absurd hd' (hn _ _ _ _)
 .exact⟨rfl,rfl⟩
theorem DoRes.no{x:Flt}{s:Stp}(h:∀ci bi y b,¬zU x s ci bi y b):DoRes x s noF false:=Or.inr ⟨rfl,h,rfl⟩
theorem zE{base g cap n:Nat}{w:World}{e:TypeId}{s:Nat}{cs:List Value}(h:w.ownsRow base e s (.slice (some ⟨g,0,none⟩) n cap) n cs):base<=g:=by
 rcases h.2 with⟨h1,_⟩|⟨g',cap',cur,h1,h2,_⟩
 .cases h1
 .cases h1;exact h2
theorem pJ{base n:Nat}{w:World}{e:TypeId}{s:Nat}{cs:List Value}{v:Value}(h:w.ownsRow base e s v n cs)(hn:v≠.slice none 0 0):∃g cap,v=.slice (some ⟨g,0,none⟩) n cap:=by
 rcases h.2 with⟨h1,_⟩|⟨g',cap',cur,h1,_⟩
 .exact absurd h1 hn
 .exact⟨g',cap',h1⟩
def Wk(x:Lik):List Value:=[.string x.select,.int .i64 x.weight]
def Kf:List Lik->List Value
 |[]=>[]
 |x::r=>Wk x++Kf r
theorem Ng(x:Lik):(Wk x).length=2:=rfl
theorem Qj:∀xs:List Lik,(Kf xs).length=xs.length*2
 |[]=>rfl
 |x::r=>by
  have:=Qj r;simp only[Kf,List.length_append,List.length_cons,Ng];omega
theorem Us:∀(xs:List Lik)(k:Nat)(x:Lik)(j:Nat),xs[k]?=some x->j<2->(Kf xs)[k*2+j]?=(Wk x)[j]?
 |[],_,_,_,h,_=>by simp at h
 |y::r,0,x,j,h,hj=>by
  simp at h;subst h;simp only[Kf];rw[List.getElem?_append_left (by rw[Ng];omega)];simp
 |y::r,k+1,x,j,h,hj=>by
  simp at h;simp only[Kf];rw[List.getElem?_append_right (by rw[Ng];omega),Ng,show(k+1)*2+j-2=k*2+j by omega];exact Us r k x j h hj
theorem Xr:∀(xs:List Lik),∀u∈Kf xs,u.oneCell'=true
 |[],u,h=>by cases h
 | x::r,u,h=>by
  simp only[Kf,List.mem_append]at h;rcases h with h|h
  .have:∀v∈Wk x,v.oneCell'=true:=by
    intro v hv;simp only[Wk,List.mem_cons,List.not_mem_nil,or_false]at hv;rcases hv with rfl|rfl<;>rfl
   exact this u h
  .exact Xr r u h
theorem dJ{lo:Nat}{w:World}{f:Nat->Option Value}{x:Lik}(h:LikC lo w f x)(j:Nat)(v:Value)(hv:(Wk x)[j]?=some v):f j=some v:=by
 obtain⟨q0,q1,_⟩:=h;have hj:j<2:=Ac hv;have hc:j=0\/j=1:=by omega
 rcases hc with rfl|rfl<;>(cases hv;assumption)
theorem bQ{lo:Nat}{w:World}{f:Nat->Option Value}{x:Lik}(h:∀j v,(Wk x)[j]?=some v->f j=some v)(z0:x.select.size<=maxLen):LikC lo w f x :=
 ⟨h 0 _ rfl,h 1 _ rfl,z0⟩
theorem vE{lo:Nat}{w:World}{b o:Nat}{xs:List Lik}(h:SliceC LikC 2 lo w (some ⟨b,o,none⟩) xs)(j:Nat)(u:Value)(hu:(Kf xs)[j]?=some u):w.cell? ((⟨b,o,none⟩:Addr).add j)=some u:=by
 have hl:j<xs.length*2:=by have:=Ac hu;rwa [Qj]at this
 obtain⟨x,hx⟩:∃x,xs[j/2]?=some x:=⟨xs[j/2]'(by omega),gE (by omega)⟩;obtain⟨b',o',e,_,_,hc⟩:=h.at hx;cases e
 rw[show j=j/2*2+j%2 by omega,Us xs (j/2) x (j%2) hx (by omega)]at hu;have:=dJ hc (j%2) u hu;rw[Addr.add_mid,show o+j=o+j/2*2+j%2 by omega];exact this
def yB(xs:List Lik)(m:Nat):Prop:=∀x∈xs,x.select.size<=m
theorem tP{base cap:Nat}{a:OA}{w:World}{xs:List Lik}(h:w.ownsRow base 127 2 (.slice a xs.length cap) xs.length (Kf xs))(hm:xs.length<=1048576)(hz:yB xs maxLen):SliceC LikC 2 base w a xs:=by
 rcases h.2 with⟨h1,_⟩|⟨g',cap',cur,h1,_⟩
 .have:xs.length=0:=by injection h1
  rw[List.length_eq_zero_iff.1 this];exact SliceC.nil
 .have e:a=some ⟨g',0,none⟩:=by injection h1
  subst e;refine⟨by unfold maxLen;omega,.inr ⟨g',0,rfl,⟨zE h,λ_ p=>h.frozenAt p⟩,(h.lt g' rfl).2,λk x hk=>?_⟩⟩;have hlt:=Ac hk;have hzz:=hz x (List.mem_of_getElem? hk);refine bQ (λj v hv=>?_) hzz;have hj:j<2:=Ac hv;show w.cell? ⟨g',0+k*2+j,none⟩=some v
  have:=h.cellAt (k*2+j) (by omega);rw[Nat.zero_add];rw[this,Us xs k x j hk hj];exact hv
theorem cF{lo:Nat}{w:World}{a:OA}{xs:List Lik}(h:SliceC LikC 2 lo w a xs):yB xs maxLen:=by
 intro x hx;obtain⟨j,hj⟩:=List.getElem?_of_mem hx;obtain⟨_,_,_,_,_,hc⟩:=h.at hj;obtain⟨_,_,z0⟩:=hc;exact z0
def Ub(x:Svc):List Value:=[.string x.name,.int .i64 x.spare]
def Jf:List Svc->List Value
 |[]=>[]
 |x::r=>Ub x++Jf r
theorem Mw(x:Svc):(Ub x).length=2:=rfl
theorem Kj:∀xs:List Svc,(Jf xs).length=xs.length*2
 |[]=>rfl
 |x::r=>by
  have:=Kj r;simp only[Jf,List.length_append,List.length_cons,Mw];omega
theorem Wh:∀(xs:List Svc)(k:Nat)(x:Svc)(j:Nat),xs[k]?=some x->j<2->(Jf xs)[k*2+j]?=(Ub x)[j]?
 |[],_,_,_,h,_=>by simp at h
 |y::r,0,x,j,h,hj=>by
  simp at h;subst h;simp only[Jf];rw[List.getElem?_append_left (by rw[Mw];omega)];simp
 |y::r,k+1,x,j,h,hj=>by
  simp at h;simp only[Jf];rw[List.getElem?_append_right (by rw[Mw];omega),Mw,show(k+1)*2+j-2=k*2+j by omega];exact Wh r k x j h hj
theorem My:∀(xs:List Svc),∀u∈Jf xs,u.oneCell'=true
 |[],u,h=>by cases h
 | x::r,u,h=>by
  simp only[Jf,List.mem_append]at h;rcases h with h|h
  .have:∀v∈Ub x,v.oneCell'=true:=by
    intro v hv;simp only[Ub,List.mem_cons,List.not_mem_nil,or_false]at hv;rcases hv with rfl|rfl<;>rfl
   exact this u h
  .exact My r u h
theorem dH{lo:Nat}{w:World}{f:Nat->Option Value}{x:Svc}(h:SvcC lo w f x)(j:Nat)(v:Value)(hv:(Ub x)[j]?=some v):f j=some v:=by
 obtain⟨q0,q1,_⟩:=h;have hj:j<2:=Ac hv;have hc:j=0\/j=1:=by omega
 rcases hc with rfl|rfl<;>(cases hv;assumption)
theorem eF{lo:Nat}{w:World}{f:Nat->Option Value}{x:Svc}(h:∀j v,(Ub x)[j]?=some v->f j=some v)(z0:x.name.size<=maxLen):SvcC lo w f x :=
 ⟨h 0 _ rfl,h 1 _ rfl,z0⟩
theorem Su{lo:Nat}{w:World}{b o:Nat}{xs:List Svc}(h:SliceC SvcC 2 lo w (some ⟨b,o,none⟩) xs)(j:Nat)(u:Value)(hu:(Jf xs)[j]?=some u):w.cell? ((⟨b,o,none⟩:Addr).add j)=some u:=by
 have hl:j<xs.length*2:=by have:=Ac hu;rwa [Kj]at this
 obtain⟨x,hx⟩:∃x,xs[j/2]?=some x:=⟨xs[j/2]'(by omega),gE (by omega)⟩;obtain⟨b',o',e,_,_,hc⟩:=h.at hx;cases e
 rw[show j=j/2*2+j%2 by omega,Wh xs (j/2) x (j%2) hx (by omega)]at hu;have:=dH hc (j%2) u hu;rw[Addr.add_mid,show o+j=o+j/2*2+j%2 by omega];exact this
def xX(xs:List Svc)(m:Nat):Prop:=∀x∈xs,x.name.size<=m
theorem tZ{base cap:Nat}{a:OA}{w:World}{xs:List Svc}(h:w.ownsRow base 88 2 (.slice a xs.length cap) xs.length (Jf xs))(hm:xs.length<=1048576)(hz:xX xs maxLen):SliceC SvcC 2 base w a xs:=by
 rcases h.2 with⟨h1,_⟩|⟨g',cap',cur,h1,_⟩
 .have:xs.length=0:=by injection h1
  rw[List.length_eq_zero_iff.1 this];exact SliceC.nil
 .have e:a=some ⟨g',0,none⟩:=by injection h1
  subst e;refine⟨by unfold maxLen;omega,.inr ⟨g',0,rfl,⟨zE h,λ_ p=>h.frozenAt p⟩,(h.lt g' rfl).2,λk x hk=>?_⟩⟩;have hlt:=Ac hk;have hzz:=hz x (List.mem_of_getElem? hk);refine eF (λj v hv=>?_) hzz;have hj:j<2:=Ac hv;show w.cell? ⟨g',0+k*2+j,none⟩=some v
  have:=h.cellAt (k*2+j) (by omega);rw[Nat.zero_add];rw[this,Wh xs k x j hk hj];exact hv
theorem fJ{lo:Nat}{w:World}{a:OA}{xs:List Svc}(h:SliceC SvcC 2 lo w a xs):xX xs maxLen:=by
 intro x hx;obtain⟨j,hj⟩:=List.getElem?_of_mem hx;obtain⟨_,_,_,_,_,hc⟩:=h.at hj;obtain⟨_,_,z0⟩:=hc;exact z0
abbrev He(xs:List BA):List Value:=xs.map Value.string
theorem nD(xs:List BA):(He xs).length=xs.length*1:=by simp
theorem pT(ms:List BA):∀u∈He ms,u.oneCell'=true:=by
 intro u hu;obtain⟨x,_,rfl⟩:=List.mem_map.1 hu;rfl
theorem sY{ms:List BA}{j:Nat}{u:Value}(h:(He ms)[j]?=some u):∃s,ms[j]?=some s/\u=.string s:=by
 rw[List.getElem?_map]at h
 cases e:ms[j]? with
 |none=>rw[e]at h;cases h
 |some s=>rw[e]at h;cases h;exact⟨s,rfl,rfl⟩
theorem vT{lo:Nat}{w:World}{b o:Nat}{xs:List BA}(h:SliceC StrC 1 lo w (some ⟨b,o,none⟩) xs)(j:Nat)(u:Value)(hu:(He xs)[j]?=some u):w.cell? ((⟨b,o,none⟩:Addr).add j)=some u:=by
 obtain⟨s,hs,rfl⟩:=sY hu;obtain⟨b',o',e,_,_,hc⟩:=h.at hs;cases e
 have:=hc.1;simp only[Nat.mul_one,Nat.add_zero]at this;rw[Addr.add_mid];exact this
def kY(xs:List BA)(m:Nat):Prop:=∀x∈xs,x.size<=m
theorem dG{lo:Nat}{w:World}{a:OA}{xs:List BA}(h:SliceC StrC 1 lo w a xs):kY xs maxLen:=by
 intro x hx;obtain⟨j,hj⟩:=List.getElem?_of_mem hx;obtain⟨_,_,_,_,_,hc⟩:=h.at hj;exact hc.2
theorem Px{base cap:Nat}{a:OA}{w:World}{xs:List BA}(h:w.ownsRow base 9 1 (.slice a xs.length cap) xs.length (He xs))(hm:xs.length<=1048576)(hz:kY xs maxLen):SliceC StrC 1 base w a xs:=by
 rcases h.2 with⟨h1,_⟩|⟨g',cap',cur,h1,_⟩
 .have:xs.length=0:=by injection h1
  rw[List.length_eq_zero_iff.1 this];exact SliceC.nil
 .have e:a=some ⟨g',0,none⟩:=by injection h1
  subst e;refine⟨by unfold maxLen;omega,.inr ⟨g',0,rfl,⟨zE h,λ_ p=>h.frozenAt p⟩,(h.lt g' rfl).2,λk x hk=>⟨?_,hz x (List.mem_of_getElem? hk)⟩⟩⟩;have hlt:=Ac hk;have:=h.cellAt k (by omega);simp only[Nat.mul_one,Nat.add_zero,Nat.zero_add];rw[this,List.getElem?_map,hk];rfl
theorem Qm{P:Program}{w:World}(base:Nat)(t ty e:TypeId)(i:TypeInfo)(size c:Nat)(ht:P.underlying t=some (.slice e))(hi:P.info? e=some i)(v:Value)(n:Nat)(xs:List Value)(hown:w.ownsRow base e size v n xs) :
  (Builtin.append_ #[t,t] ty #[v,.slice none 0 c]).run P w=.ok v w:=by
 rcases hown.2 with⟨rfl,rfl⟩|⟨g,cap,cur,rfl,_,_,hnc,_⟩
 .simp[Builtin.append_,run_underlying ht,sizeOf,typeInfo,hi,Builtin.lenOf,Builtin.firstCells]
 .simp[Builtin.append_,run_underlying ht,sizeOf,typeInfo,hi,Builtin.lenOf,Builtin.firstCells,hnc,storeCells]
theorem Hh{P:Program}{w:World}{ops:Array Oper}{rest:List Oper}{o:Oper}{a:Act}{Q:Exit->Act->World->Prop}(hgd:o.guard=none)(s x:Operand)(t:TypeId)(ho:o.op=.call {callee:=.builtin .append,args:=#[s,x],argTypes:=#[t,t]})(base:Nat)(e:TypeId)(i:TypeInfo)(z:Value)(size bytes:Nat)(ht:P.underlying t=some (.slice e))(hi:P.info? e=some i)(hz:i.zero=some z)(hsize:i.size=size)(hby:i.bytes=bytes)(hzs:z.cells.size=size)(hsz:0<size)(v:Value)(n:Nat)(xs:List Value)(hs:a.eval s=v)(hown:w.ownsRow base e size v n xs)(ao:OA)(m c:Nat)(news:List Value)(hx:a.eval x=.slice ao m c)(hno:ao=none->m=0)(hl:news.length=m*size)(hnews:∀ad,ao=some ad->∀j u,news[j]?=some u->w.cell? (ad.add j)=some u)(h1:∀u∈news,u.oneCell'=true)(h63:n+m<=maxLen)(hbytes:(n+m)*bytes<=140737488355328)(hbase:base<=w.heap.size)(h:∀v' w',w'.ownsRow base e size v' (n+m) (xs++news)->w.grownBy w' v.ownBlock->(v'=.slice none 0 0↔v=.slice none 0 0/\m=0)->wpList P ops Q rest (a.put o.dst v') w'):wpList P ops Q (o::rest) a w:=by
 cases ao with
 |some ad=>exact wpList_append_own w hgd s x t ho base e i z size bytes ht hi hz hsize hby hzs hsz v n xs hs hown ad m c news hx hl (hnews ad rfl) h1 h63 hbytes hbase h
 |none =>
  obtain rfl:=hno rfl;have hn:news=[]:=List.length_eq_zero_iff.1 (by omega);subst hn;have hrun:=Qm (P:=P) (w:=w) base t o.type e i size c ht hi v n xs hown;refine wpList_plain hgd λK hK=>?_
  unfold Oper.wp;simp[execOp,ho,resolve,invoke,builtin,hs,hx,hrun,Result.andThen];exact hK _ _ (h v w (by simpa using hown) ⟨rfl,rfl,rfl,Nat.le_refl _,λ_ _ _=>rfl⟩ (by simp))
theorem SliceC.nilD{α:Type}{C:En α}{n lo:Nat}{w:World}{a:OA}{xs:List α}(h:SliceC C n lo w a xs)(e:a=none):xs.length=0:=by
 rcases h.2 with h|⟨b,o,h,_⟩
 .rw[h];rfl
 .rw[e]at h;cases h
theorem tF{lo:Nat}{w:World}{a:OA}{xs:List BA}(h:SliceC StrC 1 lo w a xs):∀ad,a=some ad->∀j u,(He xs)[j]?=some u->w.cell? (ad.add j)=some u:=by
 intro ad e j u hu;rcases h.2 with h'|⟨b,o,e',_⟩
 .subst h';cases hu
 .rw[e]at e';cases e';subst e;exact vT h j u hu
theorem tB{lo:Nat}{w:World}{a:OA}{xs:List Lik}(h:SliceC LikC 2 lo w a xs):∀ad,a=some ad->∀j u,(Kf xs)[j]?=some u->w.cell? (ad.add j)=some u:=by
 intro ad e j u hu;rcases h.2 with h'|⟨b,o,e',_⟩
 .subst h';cases hu
 .rw[e]at e';cases e';subst e;exact vE h j u hu
theorem AU{lo:Nat}{w:World}{a:OA}{xs:List Svc}(h:SliceC SvcC 2 lo w a xs):∀ad,a=some ad->∀j u,(Jf xs)[j]?=some u->w.cell? (ad.add j)=some u:=by
 intro ad e j u hu;rcases h.2 with h'|⟨b,o,e',_⟩
 .subst h';cases hu
 .rw[e]at e';cases e';subst e;exact Su h j u hu
end Go.Proofs.YtpidfnfilnkhkaaGreat
