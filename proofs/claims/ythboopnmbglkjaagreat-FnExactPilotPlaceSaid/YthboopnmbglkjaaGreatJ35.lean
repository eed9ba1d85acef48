import Derived.Test.YthboopnmbglkjaaGreatJ32
import Derived.Defers
import Derived.Test.YthboopnmbglkjaaGreatDc2
import Derived.Test.YthboopnmbglkjaaGreatJ34
import Derived.Test.YthboopnmbglkjaaGreatJ29
set_option maxHeartbeats 4000000
set_option maxRecDepth 100000
namespace Go.Proofs.YthboopnmbglkjaaGreat
open Go.RowKit Go.WideMaps Go.Maps Tryz
def May(x:Flt)(gone:List BA):Prop:=CL x gone gone.length/\CM x gone x.services.length
def DB(x:Flt)(gone:List BA):Prop:=Bb x=true/\May x gone
structure Stp where
 copy:BA
 berth:BA
 gone:List BA
abbrev hhL(x:Stp)(a1:OA)(c1:Nat):List Value:=[Y x.copy,Y x.berth,.slice a1 x.gone.length c1]
abbrev hhA(x:Stp)(a1:OA)(c1:Nat):Array Value:=#[Y x.copy,Y x.berth,.slice a1 x.gone.length c1]
def Xw(x:Stp):Nat:=x.copy.size+x.berth.size+(wS ByteArray.size x.gone)
def StpC:Eh Stp:=λlo w f x=>∃(a2:OA)(c2:Nat),f 0=some (Y x.copy)/\f 1=some (Y x.berth)/\f 2=some (.slice a2 x.gone.length c2)/\x.copy.size<=maxLen/\x.berth.size<=maxLen/\sX lo w a2 x.gone
theorem StpC.holds:Eu StpC 3:=by
 rintro lo lo' w w' f g x h k hl⟨a2,c2,q0,q1,q2,z0,z1,n2⟩;exact⟨a2,c2,(h 0 (by omega)).trans q0,(h 1 (by omega)).trans q1,(h 2 (by omega)).trans q2,z0,z1,n2.keep StrC.holds k hl⟩
theorem Hp:(prog.info? 49).map (·.size)=some 3:=by kernel_rfl
theorem yK:Po 49 3:=⟨_,underlying49,rfl,Hp⟩
theorem oS(x:Stp)(a2:OA)(c2:Nat)(a2p:OA)(c2p:Nat)(lo lo':Nat)(w:World)(n2:sX lo w a2 x.gone)(p2:sX lo' w a2p x.gone)(hsm:Xw x<=1048576) :
  Calls prog 31 #[.agg (hhA x a2 c2),.agg (hhA x a2p c2p)] w (Rt (.bool true) w):=by
 have N2:=iH n2;have P2:=iH p2;have M2:wS ByteArray.size x.gone<=1048576:=by unfold Xw at hsm;omega
 clear hsm n2 p2;go_enter func31,ntmps31;go_wp2_with fail;refine(Uw x.gone a2 a2p c2 c2p lo lo' _ (N2.out.below StrC.holds (B:=w.heap.size) (by go_grown) nL) (P2.out.below StrC.holds (B:=w.heap.size) (by go_grown) nL) M2).mono ?_;rintro e w1⟨rfl,hb1⟩;have hB1:bW w w1:=(show bW w _ by go_grown).trans (hb1.mono (by simp;omega));have hs1:w.heap.size+1<w1.heap.size:=by have:=hb1.size;simp at this;omega
 clear hb1
 go_wp2
 go_ret;exact⟨rfl,hB1⟩
theorem fI:(prog.info? 49).map (λi=>(i.zero,i.size,i.bytes))=some (some (.agg #[Y ⟨#[]⟩,Y ⟨#[]⟩,.slice none 0 0]),3,56):=by kernel_rfl
theorem Og(xs:List Stp)(a a':OA)(cap cap' lo lo':Nat)(w:World)(hg:SliceC StpC 3 lo w a xs)(hh:SliceC StpC 3 lo' w a' xs)(hsm:wS Xw xs<=1048576) :
  Calls prog 9 #[.slice a xs.length cap,.slice a' xs.length cap'] w (Rt (.bool true) w):=by
 have hlen:xs.length<=1048576:=lT Ep hsm;have HG:=iH hg;have HH:=iH hh;have HSM:=iH hsm;clear hg hh hsm;go_enter func9,ntmps9
 go_wp2
 go_loopw [5] (λi wr=>∃(k:Nat),k<=xs.length/\i=X k/\bW w wr) (λi _=>xs.length-(intOf i).toNat)
 case atStart=>exact⟨0,zL,rfl,Below.refl _ _⟩
 obtain⟨k,hk,rfl,hbel⟩:=hrel;by_cases hlt:k<xs.length
 .obtain⟨x,hx⟩:=gXe hlt
  obtain⟨b,o,rfl,_,_,hc⟩:=(HG.out.below StpC.holds hbel nL).at hx;obtain⟨b',o',rfl,_,_,hc'⟩:=(HH.out.below StpC.holds hbel nL).at hx;obtain⟨a2,c2,q0,q1,q2,_,_,n2⟩:=hc;obtain⟨a2p,c2p,r0,r1,r2,_,_,p2⟩:=hc';simp only[Nat.add_zero]at q0 q1 q2 r0 r1 r2;have hwx:Xw x<=1048576:=lT (Ml (List.mem_of_getElem? hx)) HSM;have k0:=cell_regrown q0;have l0:=cell_regrown r0;have k1:=cell_regrown q1;have l1:=cell_regrown r1;have k2:=cell_regrown q2;have l2:=cell_regrown r2;have cE:∀d os,Calls prog 31 #[.agg (hhA x a2 c2),.agg (hhA x a2p c2p)] (Sort.grow (redrawn wr d) os) λe w''=>e=.returned (.bool true)/\∃p:Regrown,w''=Sort.grow (redrawn wr p.d) p.os:=λd os=>Calls.regrown_of (oS x a2 c2 a2p c2p lo lo' _ (n2.below StrC.holds (below_regrown wr d os) nL) (p2.below StrC.holds (below_regrown wr d os) nL) hwx)
  have i0:(0:Int)<=(k:Int):=by omega
  have i1:(k:Int)<(xs.length:Int):=by omega
  clear hx q0 q1 q2 r0 r1 r2 n2 p2 hwx;go_wp2_with fail;refine wp_region_quiet_below (by kernel_rfl) (by kernel_rfl) ?_
  repeat(quiet_step (first|exact cE _ _))
  refine wpQuiet_nil ?_;intro _ hw';obtain⟨⟨dq,osq⟩,hw''⟩:=hw';have hB:=hbel.trans ((below_regrown wr dq osq).mono hbel.size);simp only[]at hw'';rw[<-hw'']at hB;clear hw'' cE k0 l0 k1 l1 k2 l2
  go_wp2
  go_roundw
  case rel=>exact⟨k+1,by omega,by go_num,hB⟩
  simp[intOf];omega
 go_wp2
 go_ret;exact⟨rfl,hbel⟩
def atP(pl:List Nat)(s:BA)(l:List Cpy):List Cpy:=l.mapIdx λi c=>if i∈pl then{c with at_:=s}else c
def woF(x:Flt)(pl:List Nat):Flt:={x with copies:=atP pl ⟨#[]⟩ x.copies}
def tZ(x:Flt)(gone:List BA):List Nat:=gone.map λg=>(Qq x.copies g).toNat
theorem CI{x:Flt}(hv:Bb x=true){gone:List BA}{pl:List Nat}(h:PlOk (cpN x) gone gone.length pl):pl=tZ x gone:=by
 obtain⟨_,_,_,hc,_,_⟩:=Bh hv;apply List.ext_getElem?;intro i;unfold tZ;rw[List.getElem?_map]
 cases e:gone[i]? with
 |none =>
  have:=List.getElem?_eq_none_iff.1 e;rw[List.getElem?_eq_none (by rw[h.1];exact this)];rfl
 |some g =>
  obtain⟨p,h1,h2⟩:=h.2 i g (Af e) e;rw[List.length_map]at h2;rw[h1,Option.map_some,(oP hc h2).1];rfl
def yW(x:Flt)(s:Stp)(ci bi:Nat)(y:Cpy)(b:Brt):Prop:=BM x s.copy s.berth=some (ci,bi)/\x.copies[ci]?=some y/\x.berths[bi]?=some b/\y.at_=⟨#[]⟩/\May x s.gone/\(∀q,q∈tZ x s.gone->∀c,x.copies[q]?=some c->c.at_=s.berth)/\Cs (woF x (tZ x s.gone)) ci y b false=0
def doF(x:Flt)(s:Stp)(ci:Nat)(y:Cpy):Flt:={x with copies:=(atP (tZ x s.gone) ⟨#[]⟩ x.copies).set ci {y with at_:=s.berth}}
def noF:Flt:=⟨false,[],[],[]⟩
def DoRes(x:Flt)(s:Stp)(r:Flt)(t:Bool):Prop:=(t=true/\∃ci bi y b,yW x s ci bi y b/\r=doF x s ci y)\/(t=false/\(∀ci bi y b,¬yW x s ci bi y b)/\r=noF)
theorem DoRes.one{x:Flt}{s:Stp}{r r':Flt}{t t':Bool}(h:DoRes x s r t)(h':DoRes x s r' t'):r=r'/\t=t':=by
 rcases h with⟨rfl,ci,bi,y,b,hd,rfl⟩|⟨rfl,hn,rfl⟩<;>rcases h' with⟨rfl,ci',bi',y',b',hd',rfl⟩|⟨rfl,hn',rfl⟩
 .have e1:=hd.1.symm.trans hd'.1
  cases e1
  have e2:=hd.2.1.symm.trans hd'.2.1;cases e2
  exact⟨rfl,rfl⟩
 .exact absurd hd (hn' _ _ _ _)
 .exact absurd hd' (hn _ _ _ _)
 exact⟨rfl,rfl⟩
theorem DoRes.no{x:Flt}{s:Stp}(h:∀ci bi y b,¬yW x s ci bi y b):DoRes x s noF false:=Or.inr ⟨rfl,h,rfl⟩
theorem zT(y:Cpy)(s:BA)(v:Value):vCp {y with at_:=s} v=(vCp y v).set 11 (Y s):=rfl
theorem rD{base G q:Nat}{w:World}{l:List Cpy}{cs:List Value}{i:Nat}{y:Cpy}(s:BA)(hl:cs.length=l.length*12)(h2:NAt vCp Cpy.likes LikC 2 12 base (sP G 0 l.length q) w cs l)(hi:l[i]?=some y) :
  NAt vCp Cpy.likes LikC 2 12 base (sP G 0 l.length q) (w.setCell (E G (i*12+11)) (Y s)) (cs.set (i*12+11) (Y s)) (l.set i {y with at_:=s}):=by
 have hil:=Af hi;have hg:=Dt w (E G (i*12+11)) (Y s);intro j x hj;by_cases e:j=i
 .subst e
  rw[List.getElem?_set_self hil]at hj;cases hj
  obtain⟨ae,ce,q1,q2,q3⟩:=h2 j y hi;refine⟨ae,ce,λt u hu=>?_,Ck LikC.flat q2 hg (λb o e hn=>(q3 b o e hn).1),λb o e hn=>⟨(q3 b o e hn).1,lL (q3 b o e hn).2 hg.size⟩⟩;rw[zT]at hu;have ht:t<12:=by
   have:=Af hu
   rwa [List.length_set,Iz]at this
  by_cases e:t=11
  .subst e
   rw[List.getElem?_set_self (by rw[Iz];omega)]at hu;rw[List.getElem?_set_self (by omega),<-hu]
  rw[List.getElem?_set_ne (by omega)]at hu⊢;exact q1 t u hu
 rw[List.getElem?_set_ne (λh=>e h.symm)]at hj;obtain⟨ae,ce,q1,q2,q3⟩:=h2 j x hj;refine⟨ae,ce,λt u hu=>?_,Ck LikC.flat q2 hg (λb o e hn=>(q3 b o e hn).1),λb o e hn=>⟨(q3 b o e hn).1,lL (q3 b o e hn).2 hg.size⟩⟩;have ht:t<12:=by
  have:=Af hu
  rwa [Iz]at this
 rw[List.getElem?_set_ne (by omega)];exact q1 t u hu
theorem OwnN.setAt{base G q:Nat}{w:World}{l:List Cpy}{i:Nat}{y:Cpy}(h:Rr base w (sP G 0 l.length q) l)(hi:l[i]?=some y)(s:BA):Rr base (w.setCell (E G (i*12+11)) (Y s)) (sP G 0 l.length q) (l.set i {y with at_:=s}):=by
 obtain⟨cs,h1,h2⟩:=h;refine⟨cs.set (i*12+11) (Y s),?_,rD s h1.1 h2 hi⟩;rw[List.length_set];exact(h1.stored (i*12+11) (Y s)).1
theorem OwnA.setAt{base G q:Nat}{w:World}{l:List Cpy}{i:Nat}{y:Cpy}(h:Sj base w (sP G 0 l.length q) l)(hi:l[i]?=some y)(s:BA):Sj base (w.setCell (E G (i*12+11)) (Y s)) (sP G 0 l.length q) (l.set i {y with at_:=s}):=by
 obtain⟨cs,h1,h2,h3⟩:=h;refine⟨cs.set (i*12+11) (Y s),?_,rD s h1.1 h2 hi,?_⟩
 .rw[List.length_set]
  exact(h1.stored (i*12+11) (Y s)).1
 rw[List.length_set];intro a b c d e f c' d' e' f' k1 k2 k3 k4;rw[List.getElem?_set_ne (by omega)]at k3 k4;exact h3 a b c d e f c' d' e' f' k1 k2 k3 k4
theorem OwnN.atCell{base G q:Nat}{w:World}{l:List Cpy}{i:Nat}{y:Cpy}(h:Rr base w (sP G 0 l.length q) l)(hi:l[i]?=some y):w.cell? (E G (i*12+11))=some (Y y.at_)/\w.frozen? (E G (i*12+11))=false:=by
 obtain⟨cs,h1,h2⟩:=h;have hil:=Af hi;obtain⟨ae,ce,q1,_⟩:=h2 i y hi;exact⟨(h1.cellAt _ (by omega)).trans (q1 11 _ rfl),h1.frozenAt _⟩
section
variable {α β:Type} {V:α->Value->List Value} {sub:α->List β} {C:Eh β} {m n f:Nat}
theorem KpB.keeps{lo:Nat}{a b:World}(k:KpB lo a b):Keeps lo a b:=⟨k.1,λx o h1 h2=>⟨World.cell?_of_block (a:=(E x o)) (k.2 x h1 h2),World.frozen?_of_block (a:=(E x o)) (k.2 x h1 h2)⟩⟩
theorem Sq{w w':World}{base:Nat}{e:TypeId}{size:Nat}{v:Value}{k:Nat}{xs:List Value}(h:w.ownsRow base e size v k xs)(hk:KpB base w w'):w'.ownsRow base e size v k xs:=by
 refine⟨h.1,?_⟩;rcases h.2 with h2|⟨g,cap,cur,h1,hb,hg,h3⟩
 .exact .inl h2
 exact .inr ⟨g,cap,cur,h1,hb,(hk.2 g hb (Array.getElem?_eq_some_iff.1 hg).1).trans hg,h3⟩
theorem OwnA.kpb{T:TypeId}{base:Nat}{w w':World}{v:Value}{l:List α}(hC:Eu C m)(h:OwnA V sub C m n f T base w v l)(k:KpB base w w'):OwnA V sub C m n f T base w' v l:=by
 obtain⟨cs,h1,h2,h3⟩:=h;refine⟨cs,Sq h1 k,λj x hj=>?_,h3⟩;obtain⟨ae,ce,q1,q2,q3⟩:=h2 j x hj;exact⟨ae,ce,q1,q2.keep hC k.keeps nL,λb o e hn=>⟨(q3 b o e hn).1,lL (q3 b o e hn).2 k.1⟩⟩
theorem OwnT.own{T:TypeId}{base top:Nat}{w:World}{v:Value}{l:List α}(hC:Eu C m)(h:OwnT V sub C m n f T base top w v l):OwnA V sub C m n f T base w v l:=by
 obtain⟨W,h1,_,k⟩:=h;exact h1.kpb hC k
theorem OwnT.keep{T:TypeId}{base top:Nat}{w w':World}{v:Value}{l:List α}(h:OwnT V sub C m n f T base top w v l)(hs:w.heap.size<=w'.heap.size)(hk:∀x,base<=x->x<top->x<w.heap.size->w'.heap[x]?=w.heap[x]?):OwnT V sub C m n f T base top w' v l:=by
 obtain⟨W,h1,h2,k⟩:=h;exact⟨W,h1,h2,lT k.1 hs,λx a b=>(hk x a (lL b h2) (lL b k.1)).trans (k.2 x a b)⟩
theorem OwnT.below{T:TypeId}{base top:Nat}{w w':World}{v:Value}{l:List α}(h:OwnT V sub C m n f T base top w v l)(hb:bW w w'):OwnT V sub C m n f T base top w' v l:=h.keep hb.size (λx _ _ h3=>hb.block x h3)
theorem OwnT.but{T:TypeId}{base top r:Nat}{w w':World}{v:Value}{l:List α}(h:OwnT V sub C m n f T base top w v l)(hb:But r w.heap.size w w')(hr:top<=r\/r<base):OwnT V sub C m n f T base top w' v l:=h.keep hb.size (λx h1 h2 h3=>hb.block x h3 (by omega))
end
abbrev lM(base top:Nat)(w:World)(v:Value)(l:List Cpy):Prop:=OwnT vCp Cpy.likes LikC 2 12 7 54 base top w v l
theorem OwnT.setAt{base top G q:Nat}{w:World}{l:List Cpy}{i:Nat}{y:Cpy}(h:lM base top w (sP G 0 l.length q) l)(hi:l[i]?=some y)(s:BA):lM base top (w.setCell (E G (i*12+11)) (Y s)) (sP G 0 l.length q) (l.set i {y with at_:=s}):=by
 obtain⟨W,h1,h2,k⟩:=h;refine⟨W.setCell (E G (i*12+11)) (Y s),h1.setAt hi s,by simpa[World.setCell]using h2,by simpa[World.setCell]using k.1,λx a b=>?_⟩;simp only[World.setCell,Array.getElem?_modify];rw[k.2 x a (by simpa[World.setCell]using b)]
theorem OwnN.nameCell{base G q:Nat}{w:World}{l:List Cpy}{i:Nat}{y:Cpy}(h:Rr base w (sP G 0 l.length q) l)(hi:l[i]?=some y):w.cell? (E G (i*12))=some (Y y.name):=by
 obtain⟨cs,h1,h2⟩:=h;have hil:=Af hi;obtain⟨ae,ce,q1,_⟩:=h2 i y hi;exact(h1.cellAt _ (by omega)).trans (q1 0 _ rfl)
theorem alT(w:World)(A B:Array Value)(s t:TypeId):∃w0,w0=(w.alloc (Obj.cells A s)).alloc (Obj.cells B t)/\Hid (Blk w.heap.size A s w0)/\Hid (Blk (w.heap.size+1) B t w0)/\Hid (bW w w0):=by
 have h9:=Blk.alloc (w.alloc (Obj.cells A s)) B t;exact⟨_,rfl,(Blk.alloc w A s).below ((Below.refl _ _).alloc nL _) (Blk.alloc w A s).lt,(by show Blk _ _ _ _;simpa using h9),((Below.refl _ _).alloc nL _).alloc (by simp) _⟩
theorem alU(w:World)(A B C:Array Value)(s t u:TypeId):∃w0,w0=((w.alloc (Obj.cells A s)).alloc (Obj.cells B t)).alloc (Obj.cells C u)/\Hid (Blk w.heap.size A s w0)/\Hid (Blk (w.heap.size+1) B t w0)/\Hid (Blk (w.heap.size+2) C u w0)/\Hid (bW w w0):=by
 obtain⟨w1,e1,h1,h2,h3⟩:=alT w A B s t;have hb:=(Below.refl _ w1).alloc nL (Obj.cells C u);have hs:w1.heap.size=w.heap.size+2:=by rw[e1];simp
 have h9:=Blk.alloc w1 C u;rw[hs]at h9;exact⟨_,by rw[e1],h1.out.below hb h1.out.lt,h2.out.below hb h2.out.lt,h9,qTr h3.out hb⟩
end Go.Proofs.YthboopnmbglkjaaGreat
namespace Go.Proofs.YthboopnmbglkjaaGreat
open Go.RowKit Go.WideMaps Go.Maps Tryz
abbrev An(p ci bi:Nat)(y:Cpy)(a7:OA)(c7:Nat)(b:Brt)(am:OA)(cm:Nat)(u1 u2 u3:Int):Array Value:=#[pP p 0,X ci,Y y.name,Y y.service,X y.rank,X y.born,X y.room,X y.hold,Y y.select,.slice a7 y.likes.length c7,X y.apart,Y y.near,Y y.fixed,Y y.at_,X bi,Y b.name,Y b.zone,.slice am b.marks.length cm,X b.room,X b.hold,.bool b.closed,X u1,X u2,X u3]
theorem fZ{m n:Nat}{D:DataW Unit}{w:World}{t:BA}{k:Nat}{l:Lit}(h:w.ownsMap prog 245 Lf m n D)(hk:keyOf prog 245 (.agg #[Y t,X ((k:Nat):Int)])=some l) :
  ∃B,(Instr.lookup 63 (.map (some m)) (.agg #[Y t,X ((k:Nat):Int)]) true).run prog w=.ok (.tuple #[.agg #[.bool B],.bool (has D l)]) w/\D.atKey l (.lit (.bool false))=.lit (.bool B):=by
 obtain⟨v,ps,hrun,hv⟩:=h.look_ok mD underlying63 (uR w) (Xg false) hk;obtain⟨B,rfl,e⟩:=gG hv;refine⟨B,hrun,?_⟩;have:=congrArg Prod.fst e;simpa using this
theorem mV(p m4 ci bi n:Nat)(y:Cpy)(a7:OA)(c7:Nat)(b:Brt)(am:OA)(cm:Nat)(u1 u2 u3:Int)(bs:List Brt)(D:DataW Unit)(t:BA)(lo:Nat)(w:World)(p7:w.cell? (E p 7)=some (.map (some m4)))(o4:w.ownsMap prog 245 Lf m4 n D)(hm:MemoOk bs D)(hb:bs[bi]?=some b)(hbi:bi<=1048576)(hn:n<16777216)(nm:sX lo w am b.marks)(hml:b.marks.length<=1000)(hz:b.zone.size<=1000)(ht:t.size<=maxLen) :
  Calls prog 166 #[.agg (An p ci bi y a7 c7 b am cm u1 u2 u3),Y t] w λe w'=>e=.returned (.bool (Ch t b.marks b.zone))/\∃D',w'.ownsMap prog 245 Lf m4 (n+1) D'/\MemoOk bs D'/\But m4 w.heap.size w w':=by
 have O4:=iH o4;have HM:=iH hm;have HB:=iH hb;have NM:=iH nm;have hpl:p<w.heap.size:=block_lt_of_cell p7;have hm4:m4<w.heap.size:=o4.lt;have P7:=iH p7;obtain⟨l,hl⟩:=CQ t bi ht hbi;have HL:=iH hl;have HT:=iH ht;clear o4 hm hb nm p7 hl ht;go_enter func166,ntmps166;go_upto_region 2 with fail;have hb0:=bl2 w (An p ci bi y a7 c7 b am cm u1 u2 u3) 201 #[Y t,X ((bi:Nat):Int)] 245;have hS:((w.alloc (Obj.cells (An p ci bi y a7 c7 b am cm u1 u2 u3) 201)).alloc (Obj.cells #[Y t,X ((bi:Nat):Int)] 245)).heap.size=w.heap.size+1+1:=by simp
 have s0:((w.alloc (Obj.cells (An p ci bi y a7 c7 b am cm u1 u2 u3) 201)).alloc (Obj.cells #[Y t,X ((bi:Nat):Int)] 245)).cell? (E w.heap.size 0)=some (pP p 0):=by simp
 have s15:((w.alloc (Obj.cells (An p ci bi y a7 c7 b am cm u1 u2 u3) 201)).alloc (Obj.cells #[Y t,X ((bi:Nat):Int)] 245)).rangeAt w.heap.size 15 (bbL b am cm):=Aa (by simp) (Aa (by simp) (Aa (by simp) (Aa (by simp) (Aa (by simp) (Aa (by simp) (Am _ _ _))))));have k0:((w.alloc (Obj.cells (An p ci bi y a7 c7 b am cm u1 u2 u3) 201)).alloc (Obj.cells #[Y t,X ((bi:Nat):Int)] 245)).cell? (E (w.heap.size+1) 0)=some (Y t):=by simp
 have k1:((w.alloc (Obj.cells (An p ci bi y a7 c7 b am cm u1 u2 u3) 201)).alloc (Obj.cells #[Y t,X ((bi:Nat):Int)] 245)).cell? (E (w.heap.size+1) 1)=some (X ((bi:Nat):Int)):=by simp
 generalize(w.alloc (Obj.cells (An p ci bi y a7 c7 b am cm u1 u2 u3) 201)).alloc (Obj.cells #[Y t,X ((bi:Nat):Int)] 245)=w1 at *;have HB0:=iH hb0;have HS15:=iH s15;have P7':w1.cell? (E p 7)=some (.map (some m4)):=(hb0.cell (p:=(E p 7)) hpl).trans P7;have OA:=iH (Ag O4 hb0 hm4);have OX:=iH (Ag OA ((Below.refl w1.heap.size w1).alloc nL (Obj.cells #[.bool false] 247)) OA.out.lt);have hba:∀{b' o':Nat} {v':Value},w1.cell? (E b' o')=some v'->(w1.alloc (Obj.cells #[.bool false] 247)).cell? (E b' o')=some v':=λh=>(((Below.refl w1.heap.size w1).alloc nL _).cell (p:=⟨_,_,none⟩) (block_lt_of_cell h)).trans h
 have s0a:=hba s0;have k0a:=hba k0;have k1a:=hba k1;have P7a:=hba P7';obtain⟨BB,yl,hBB⟩:=fZ OX.out.drew HL;obtain⟨B0,yl0,hB0⟩:=fZ OA.out.drew HL;have hBe:B0=BB:=by
  have:=hB0.symm.trans hBB;injection this with this;injection this
 subst hBe;have HBB:=iH hBB;have HSZ:=iH hS;clear hb0 s15 hBB hS hB0 hba
 cases hh:has D l with
 | true =>
  have HE:Hid (B0=Ch t b.marks b.zone):=by
   have h1:=HM.out.2 t bi b l HB HL hh;rw[HBB.out]at h1;injection h1 with h1;injection h1
  rw[hh]at yl yl0
  go_region
  all_goals
   go_wp2
   go_ret;have hb2:bW w (w1.alloc (Obj.cells #[.bool B0] 247)).drew:=(HB0.out.alloc HB0.out.size _).drew;exact⟨Ab HE,D,(Ag O4 hb2 hm4).mono (Nat.le_succ _),HM,But.of_below hb2⟩
 | false =>
  rw[hh]at yl yl0
  go_region
  all_goals
   have hb2:bW w1 (w1.alloc (Obj.cells #[.bool B0] 247)).drew:=((Below.refl _ w1).alloc nL _).drew;have a0:(w1.alloc (Obj.cells #[.bool B0] 247)).drew.cell? (E w1.heap.size 0)=some (.bool B0):=by simp
   have fa:(w1.alloc (Obj.cells #[.bool B0] 247)).drew.frozen? (E w1.heap.size 0)=false:=by simp
   have hsz:w1.heap.size<(w1.alloc (Obj.cells #[.bool B0] 247)).drew.heap.size:=by simp
   generalize(w1.alloc (Obj.cells #[.bool B0] 247)).drew=w2 at *;have HB2:=qTH HB0 hb2;have HR2:Hid (w2.rangeAt w.heap.size 15 (bbL b am cm)):=Ac HS15 hb2 (by have:=HSZ.out;omega);have S0:=iH ((hb2.cell (p:=(E w.heap.size 0)) (block_lt_of_cell s0)).trans s0);have K0:=iH ((hb2.cell (p:=(E (w.heap.size+1) 0)) (block_lt_of_cell k0)).trans k0);have K1:=iH ((hb2.cell (p:=(E (w.heap.size+1) 1)) (block_lt_of_cell k1)).trans k1);clear yl yl0 s0a k0a k1a P7a s0 k0 k1 hb2;go_wp2_with(first|(refine qLr Ki HR2 ?_));refine(uO t b.name b.zone b.marks am cm lo b.room b.hold b.closed _ (NM.out.below StrC.holds HB2 nL) hml hz HT).mono ?_;rintro e w3⟨rfl,hb3⟩;generalize hA:Ch t b.marks b.zone=A;have HA:=iH hA;have a3:w3.cell? (E w1.heap.size 0)=some (.bool B0):=(hb3.cell (p:=(E w1.heap.size 0)) hsz).trans a0;have f3:w3.frozen? (E w1.heap.size 0)=false:=(hb3.frozen (p:=(E w1.heap.size 0)) hsz).trans fa;have hb4:bW w (w3.setCell (E w1.heap.size 0) (.bool A)):=(qTr HB2 hb3).setCell HB0.out.size _;have hne:∀{b' o':Nat} {v':Value},w2.cell? (E b' o')=some v'->b'≠w1.heap.size->(w3.setCell (E w1.heap.size 0) (.bool A)).cell? (E b' o')=some v':=λh hn=>(World.cell?_of_block (w:=w3) (a:=⟨_,_,none⟩) (Below.heap_setCell w3 _ _ _ hn)).trans ((hb3.cell (p:=⟨_,_,none⟩) (block_lt_of_cell h)).trans h)
   have s0:=hne S0 (by have:=HSZ.out;omega);have k0:=hne K0 (by have:=HSZ.out;omega);have k1:=hne K1 (by have:=HSZ.out;omega);have a4:(w3.setCell (E w1.heap.size 0) (.bool A)).cell? (E w1.heap.size 0)=some (.bool A):=World.cell?_setCell_same' _ _ _ (by rw[a3];rfl);have p7:(w3.setCell (E w1.heap.size 0) (.bool A)).cell? (E p 7)=some (.map (some m4)):=(hb4.cell (p:=(E p 7)) hpl).trans P7;obtain⟨w5,yu,ho5,hg5⟩:=(Ag O4 hb4 hm4).drew.update mD underlying63 (by unfold maxLen;omega) HL (Xg A);have HO5:=iH ho5;have HG5:=iH hg5;have HB4:=iH hb4;have HA5:=iH ((hg5.cell (a:=(E w1.heap.size 0)) (show(w3.setCell (E w1.heap.size 0) (.bool A)).drew.cell? (E w1.heap.size 0)=some (.bool A) by simpa using a4) (by simp;have:=HSZ.out;omega)));clear ho5 hg5 hb4 hne hb3;go_wp2_with fail
   go_region
   all_goals
    have a5:w5.cell? (E w1.heap.size 0)=some (.bool A):=HA5.out
    go_wp2
    go_ret;subst hA;refine⟨rfl,_,HO5,HM.out.put HB HL,?_⟩;have hbt:But m4 w.heap.size w (w3.setCell (E w1.heap.size 0) (.bool (Ch t b.marks b.zone))).drew:=But.of_below HB4.out.drew;exact hbt.trans ⟨HG5.out.os,HG5.out.tape,HG5.out.output,HG5.out.size,λk hk hne=>HG5.out.block k (lL hk hbt.size) (λe=>hne (Option.some.inj e))⟩
theorem Es:(prog.info? 201).map (·.size)=some 24:=by kernel_rfl
theorem CX:Po 201 24:=⟨_,underlying201,rfl,Es⟩
abbrev Ud:Array Value:=#[.pointer none,X 0,Y ⟨#[]⟩,Y ⟨#[]⟩,X 0,X 0,X 0,X 0,Y ⟨#[]⟩,.slice none 0 0,X 0,Y ⟨#[]⟩,Y ⟨#[]⟩,Y ⟨#[]⟩,X 0,Y ⟨#[]⟩,Y ⟨#[]⟩,.slice none 0 0,X 0,X 0,.bool false,X 0,X 0,X 0]
theorem Aw{g k:Nat}(h:k≠g):∀(vs:List Value)(o:Nat)(w:World),(w.setCells g o vs).heap[k]?=w.heap[k]?
 |[],_,_=>rfl
 |v::r,o,w=>(Aw h r (o+1) _).trans (Below.heap_setCell w (E g o) v k h)
theorem Jm{H:Type}{P:Program}{k:TypeId}{R:Value->Option (DataW H×List MemPlace)}{m n:Nat}{D:DataW H}{w:World}(h:w.ownsMap P k R m n D){g:Nat}{cs:Array Value}{t:TypeId}(hz:Blk g cs t w)(o:Nat)(vs:List Value):(w.setCells g o vs).ownsMap P k R m n D:=by
 obtain⟨es,clock,h1,h2,h3,h4⟩:=h;have hne:m≠g:=by
  rintro rfl;have:=h1.symm.trans (show w.heap[m]?=_ from hz);cases this
 exact⟨es,clock,(Aw hne vs o w).trans h1,h2,h3,h4⟩
theorem Found.cells{p m1 m2 m3 m4:Nat}{x:Flt}{a1:OA}{c1:Nat}{a2:OA}{c2:Nat}{a3:OA}{c3:Nat}{w:World}(h:Found p m1 m2 m3 m4 x a1 c1 a2 c2 a3 c3 w){g:Nat}{cs:Array Value}{t:TypeId}(hz:Blk g cs t w)(hp:p≠g)(o:Nat)(vs:List Value):Found p m1 m2 m3 m4 x a1 c1 a2 c2 a3 c3 (w.setCells g o vs):=by
 refine⟨λj v hj=>?_,by rw[Be];exact h.2.1,Jm h.2.2.1 hz o vs,Jm h.2.2.2.1 hz o vs,Jm h.2.2.2.2.1 hz o vs,?_⟩
 .rw[World.cell?_of_block (w:=w) (a:=(E p (0+j))) (Aw hp vs o w)]
  exact h.1 j v hj
 rw[Aw ?_ vs o w]
 .exact h.2.2.2.2.2
 rintro rfl;have:=h.2.2.2.2.2.symm.trans (show w.heap[m4]?=_ from hz);cases this
theorem fC{P:Program}{fn:Func}{p q:Tmp}{ty:TypeId}(h:fn.results=#[.cell p ty,.tmp q])(tmps:Array Value)(w:World)(g:Nat)(cs:List Value)(d:TypeDesc)(hp:tmps.getD p undef=pP g 0)(hc:w.rangeAt g 0 cs)(hu:P.underlying ty=some d)(hd:d.isRow=true)(hi:(P.info? ty).map (·.size)=some cs.length) :
  (results fn tmps).run P w=.ok (.tuple #[.agg cs.toArray,tmps.getD q undef]) w:=by
 have hp':tmps[p]?.getD undef=pP g 0:=by simpa using hp
 simp[results,h,hp',asAddr,run_loadVar_mid w g 0 ty cs d hc hu hd hi]
theorem mA{H:Type}{P:Program}{k:TypeId}{R:Value->Option (DataW H×List MemPlace)}{m n G:Nat}{D:DataW H}{w:World}(h:w.ownsMap P k R m n D)(hG:∃cs t f,w.heap[G]?=some (Obj.cells cs t f)):m≠G:=by
 rintro rfl;obtain⟨es,cl,g1,_⟩:=h;obtain⟨cs,t,f,g2⟩:=hG;rw[g1]at g2;cases g2
theorem AW{α:Type}(f:α->Nat):∀(xs:List α)(x:α),x∈xs->f x<=(xs.map f).sum
 |[],_,h=>by cases h
 |a::r,x,h=>by
  rw[List.map_cons,List.sum_cons];rcases List.mem_cons.1 h with rfl|h
  .omega
  have:=AW f r x h;omega
theorem uX{α:Type}{f:α->Nat}{xs:List α}{x:α}(h:x∈xs):f x<=wS f xs:=by
 have:=AW f xs x h;unfold wS;omega
theorem rX{x:Flt}(h:Ei x<=1048576):SmB x.berths/\Wd x.services 1048576/\SmC x.copies/\x.services.length<=1048576/\x.berths.length<=1048576/\x.copies.length<=1048576:=by
 unfold Ei at h;have l1:=Ep (f:=Cn) (xs:=x.berths);have l2:=Ep (f:=Dj) (xs:=x.services);have l3:=Ep (f:=Cr) (xs:=x.copies);refine⟨λb hb=>?_,λs hs=>?_,λc hc=>?_,by omega,by omega,by omega⟩
 .have h1:=uX (f:=Cn) hb
  have h2:=Ep (f:=ByteArray.size) (xs:=b.marks);have h3:Cn b=b.name.size+b.zone.size+wS ByteArray.size b.marks:=rfl;exact⟨by omega,λm hm=>by have:=uX (f:=ByteArray.size) hm;omega,by omega,by omega⟩
 .have h1:=uX (f:=Dj) hs
  have h3:Dj s=s.name.size:=rfl;omega
 have h1:=uX (f:=Cr) hc;have h2:=Ep (f:=Dm) (xs:=c.likes);have h4:Cr c=c.name.size+c.service.size+c.select.size+wS Dm c.likes+c.near.size+c.fixed.size+c.at_.size:=rfl;exact⟨by omega,λm hm=>by have h3:=uX (f:=Dm) hm;have h5:Dm m=m.select.size:=rfl;omega,by omega,by omega,by omega,by omega,by omega,by omega⟩
theorem NwRes.noD{w w':World}(hw:w.heap.size<w'.heap.size)(hb:bW w w'):NwRes noF w (.returned (.agg FfA)) w' :=
 ⟨.none,0,.none,0,.none,0,w.heap.size+1,w'.heap.size,w'.heap.size,rfl,by omega,by omega,hw,Nat.le_refl _,Nat.le_refl _,⟨w',OwnA.nil,Nat.le_refl _,KpB.below (Below.refl _ _)⟩,OwnA.nil,World.ownsRow_nil _ _ _ _,(λb e=>by cases e),OwnA.nil,hb⟩
theorem Ev{w w':World}{base:Nat}{e:TypeId}{size:Nat}{v:Value}{k:Nat}{xs:List Value}(h:w.ownsRow base e size v k xs)(hk:∀b,v.ownBlock=some b->w'.heap[b]?=w.heap[b]?):w'.ownsRow base e size v k xs:=by
 refine⟨h.1,?_⟩;rcases h.2 with h2|⟨g,cap,cur,h1,hb,hg,h3⟩
 .exact .inl h2
 exact .inr ⟨g,cap,cur,h1,hb,(hk g (by rw[h1];rfl)).trans hg,h3⟩
theorem NwRes.done{x r:Flt}{w w4 w5 w9:World}{g1:OA}{q1:Nat}{g2:OA}{q2 G q3 B1 B2 B3:Nat}(hB:bW w w4)(e0:r.pack=x.pack)(e1:r.berths=x.berths)(e2:r.services=x.services)(el:r.copies.length=x.copies.length)(h0:0<B1)(h1:w4.heap.size<=B1)(h2:B1<=B2)(h3:B2<=B3)(h4:B3<=w5.heap.size)(hG:B3<=G)(hT:OwnT vBr Brt.marks StrC 1 6 2 92 B1 B2 w5 (.slice g1 x.berths.length q1) x.berths)(hs:w5.ownsRow B2 88 2 (.slice g2 x.services.length q2) x.services.length (Ds x.services))(ht:∀b,(Value.slice g2 x.services.length q2).ownBlock=some b->b<B3)(hc:Sj B3 w9 (sP G 0 r.copies.length q3) r.copies)(hk:∀k,B1<=k->k<w5.heap.size->k≠G->w9.heap[k]?=w5.heap[k]?)(hz:w5.heap.size<=w9.heap.size)(hb9:bW w w9) :
  NwRes r w (.returned (.agg (ffA x g1 q1 g2 q2 (O G 0) q3))) w9:=by
 have hT9:OwnT vBr Brt.marks StrC 1 6 2 92 B1 B2 w9 (.slice g1 x.berths.length q1) x.berths:=hT.keep hz (λk a b c=>hk k a c (by omega));have hs9:=Ev (w':=w9) hs (λb hb=>hk b (by have:=(hs.lt b hb).1;omega) (hs.lt b hb).2 (by have:=ht b hb;omega));have hw:=hB.size;refine⟨g1,q1,g2,q2,(O G 0),q3,B1,B2,B3,by(try unfold ffA);rw[e0,e1,e2,el],h0,by omega,h2,h3,by omega,?_⟩;rw[e1,e2];exact⟨hT9,hT9.own StrC.holds,hs9,ht,hc,hb9⟩
theorem Zh{w:World}{a:Addr}{v:Value}(h:w.cell? a=some v):∃cs t f,w.heap[a.block]?=some (Obj.cells cs t f):=by
 unfold World.cell? at h
 split at h
 .rename_i c t f hc
  exact⟨c,t,f,hc⟩
 cases h
theorem Ry{H:Type}{P:Program}{k:TypeId}{R:Value->Option (DataW H×List MemPlace)}{m n G:Nat}{D:DataW H}{w:World}(h:w.ownsMap P k R m n D)(hG:∃cs t f,w.heap[G]?=some (Obj.cells cs t f))(o:Nat)(vs:List Value):(w.setCells G o vs).ownsMap P k R m n D:=by
 have hne:=mA h hG;obtain⟨es,clock,h1,h2,h3,h4⟩:=h;exact⟨es,clock,(Aw hne vs o w).trans h1,h2,h3,h4⟩
theorem uV{p m1 m2 m3 m4:Nat}{x:Flt}{a1:OA}{c1:Nat}{a2:OA}{c2:Nat}{a3:OA}{c3:Nat}{w:World}(h:FoundZ p m1 m2 m3 m4 x a1 c1 a2 c2 a3 c3 w):w.there p 0 4:=by
 intro j hj;refine⟨?_,h.2 _⟩;have hj':j=0\/j=1\/j=2\/j=3:=by omega
 rcases hj' with rfl|rfl|rfl|rfl
 .rw[h.1.1 0 _ rfl];rfl
 .rw[h.1.1 1 _ rfl];rfl
 .rw[h.1.1 2 _ rfl];rfl
 rw[h.1.1 3 _ rfl];rfl
theorem FoundZ.fleet{p m1 m2 m3 m4:Nat}{x:Flt}{a1:OA}{c1:Nat}{a2:OA}{c2:Nat}{a3:OA}{c3:Nat}{w:World}(h:FoundZ p m1 m2 m3 m4 x a1 c1 a2 c2 a3 c3 w)(g1:OA)(q1:Nat)(g2:OA)(q2:Nat)(g3:OA)(q3:Nat):Found p m1 m2 m3 m4 x g1 q1 g2 q2 g3 q3 (w.setCells p 0 (ffL x g1 q1 g2 q2 g3 q3)):=by
 have hG:=Zh (h.1.1 0 _ rfl);have ht:=uV h;obtain⟨⟨h1,h2,h3,h4,h5,h6⟩,_⟩:=h;refine⟨λj v hj=>?_,by rw[Be];exact h2,Ry h3 hG _ _,Ry h4 hG _ _,Ry h5 hG _ _,?_⟩
 .by_cases hl:j<4
  .refine World.rangeAt_setCells_same w p 0 (ffL x g1 q1 g2 q2 g3 q3) ht j v ?_
   have hj':j=0\/j=1\/j=2\/j=3:=by omega
   rcases hj' with rfl|rfl|rfl|rfl<;>exact hj
  rw[World.cell?_setCells_out p _ 0 w _ (λ_ _=>.inr (by show 0+4<=0+j;omega))];refine h1 j v ?_;have hj2:=Af hj;have hj':j=4\/j=5\/j=6\/j=7:=by simp at hj2;omega
  rcases hj' with rfl|rfl|rfl|rfl<;>exact hj
 have hne:m4≠p:=by
  rintro rfl;obtain⟨cs,t,f,g⟩:=hG;have g':w.heap[m4]?=some (Obj.cells cs t f):=g;rw[h6]at g';cases g'
 exact(Aw hne _ _ w).trans h6
theorem kL{lo:Nat}{w:World}{a:OA}{l:List Cpy}(h:sC lo w a l):SzC l:=by
 intro c hc;obtain⟨i,hi⟩:=List.getElem?_of_mem hc;obtain⟨_,_,_,_,_,a7,c7,_,_,_,_,_,_,_,_,_,_,_,_,z0,z1,z6,z9,z10,z11,_⟩:=h.at hi;exact⟨z0,z1,z6,z9,z10,z11⟩
theorem zS{lo:Nat}{w:World}{a:OA}{l:List Brt}(h:sB lo w a l):SzB l:=by
 intro c hc;obtain⟨i,hi⟩:=List.getElem?_of_mem hc;obtain⟨_,_,_,_,_,a7,c7,_,_,_,_,_,_,z0,z1,_⟩:=h.at hi;exact⟨z0,z1⟩
theorem pW(c d:Cpy)(la:OA)(lc:Nat)(ld:OA)(ldc:Nat)(w:World) :
  Calls prog 82 #[.agg (ccA c la lc),.agg (ccA d ld ldc)] w (Rt (.bool (ahW c d)) w):=by
 have HXa:=Blk.alloc w (ccA c la lc) 54;have HY1:=al2 w (ccA c la lc) 54 (ccA d ld ldc) 54;have HX1:=iH (HXa.below ((Below.refl _ _).alloc nL (Obj.cells (ccA d ld ldc) 54)) HXa.lt);have hB1:=bl2 w (ccA c la lc) 54 (ccA d ld ldc) 54;clear HXa;go_enter func82,ntmps82;go_upto_region 1 with fail;generalize(w.alloc (Obj.cells (ccA c la lc) 54)).alloc (Obj.cells (ccA d ld ldc) 54)=w1 at *;have c2:w1.cell? (E w.heap.size 2)=some (X c.rank):=HX1.out.cell rfl;have c3:w1.cell? (E w.heap.size 3)=some (X c.born):=HX1.out.cell rfl;have c0:w1.cell? (E w.heap.size 0)=some (Y c.name):=HX1.out.cell rfl;have d2:w1.cell? (E (w.heap.size+1) 2)=some (X d.rank):=HY1.out.cell rfl;have d3:w1.cell? (E (w.heap.size+1) 3)=some (X d.born):=HY1.out.cell rfl;have d0:w1.cell? (E (w.heap.size+1) 0)=some (Y d.name):=HY1.out.cell rfl;have HB:=iH hB1;clear HX1 HY1 hB1;by_cases h1:c.rank=d.rank
 .by_cases h2:c.born=d.born
  .have HE:Hid (ahW c d=Op.bytesLess c.name.toList d.name.toList):=by
    show _=_
    unfold ahW;rw[if_neg (by omega),if_neg (by omega),if_neg (by omega),if_neg (by omega)]
   rw[h1]at c2;rw[h2]at c3;clear h1 h2
   go_wp2
   go_ret;exact⟨Ab HE.out.symm,HB⟩
  have HE:Hid (ahW c d=decide (c.born<d.born)):=by
   show _=_
   unfold ahW;rw[if_neg (by omega),if_neg (by omega)];by_cases h3:c.born<d.born
   .rw[if_pos h3,decide_eq_true h3]
   rw[if_neg h3,if_pos (by omega),decide_eq_false h3]
  rw[h1]at c2;clear h1
  go_wp2
  go_ret;exact⟨Ab HE.out.symm,HB⟩
 have HE:Hid (ahW c d=decide (d.rank<c.rank)):=by
  show _=_
  unfold ahW;by_cases h3:d.rank<c.rank
  .rw[if_pos h3,decide_eq_true h3]
  rw[if_neg h3,if_pos (by omega),decide_eq_false h3]
 go_wp2
 go_ret;exact⟨Ab HE.out.symm,HB⟩
def lkQ(w:World)(b o i:Nat):OA×Nat:=match w.cell? (E b (o+i*12+7))with
 |some (.slice a _ c)=>(a,c)
 |_=>(none,0)
def vcQ(x:Flt)(w:World)(b o:Nat)(i:Nat):List Value:=match x.copies[i]? with
 |some c=>[Y c.name,Y c.service,X c.rank,X c.born,X c.room,X c.hold,Y c.select,.slice (lkQ w b o i).1 c.likes.length (lkQ w b o i).2,X c.apart,Y c.near,Y c.fixed,Y c.at_]
 |none=>[.bool false,.bool false,.bool false,.bool false,.bool false,.bool false,.bool false,.bool false,.bool false,.bool false,.bool false,.bool false]
theorem Pj(x:Flt)(w:World)(b o i:Nat):(vcQ x w b o i).length=12:=by
 unfold vcQ;cases x.copies[i]?<;>rfl
theorem cU{x:Flt}{w:World}{b o i:Nat}{c:Cpy}(h:x.copies[i]?=some c):vcQ x w b o i=[Y c.name,Y c.service,X c.rank,X c.born,X c.room,X c.hold,Y c.select,.slice (lkQ w b o i).1 c.likes.length (lkQ w b o i).2,X c.apart,Y c.near,Y c.fixed,Y c.at_]:=by unfold vcQ;rw[h]
theorem lH(x:Flt)(w:World)(b o i:Nat):∀u∈vcQ x w b o i,u.oneCell'=true:=by
 intro u hu;unfold vcQ at hu
 cases h:x.copies[i]? with
 |none =>
  rw[h]at hu;simp at hu;rw[hu];rfl
 |some c =>
  rw[h]at hu;simp at hu;rcases hu with rfl|rfl|rfl|rfl|rfl|rfl|rfl|rfl|rfl|rfl|rfl|rfl<;>rfl
theorem rS{x:Flt}{w:World}{b o lo i:Nat}{c:Cpy}(n3:sC lo w (O b o) x.copies)(h:x.copies[i]?=some c):w.rangeAt b (o+i*12) (vcQ x w b o i):=by
 obtain⟨b',o',e,_,_,hc⟩:=n3.at h;cases e
 obtain⟨la,lc,hr⟩:=dE hc;have h7:w.cell? (E b (o+i*12+7))=some (.slice la c.likes.length lc):=hr 7 _ rfl;have hk:lkQ w b o i=(la,lc):=by unfold lkQ;rw[h7]
 rw[cU h,hk];exact hr
def rvQ(x:Flt)(w:World)(b o:Nat)(l:List Nat):List Value:=l.flatMap (vcQ x w b o)
theorem Ge(x:Flt)(w:World)(b o:Nat):∀l:List Nat,(rvQ x w b o l).length=l.length*12
 |[]=>rfl
 |a::r=>by
  show(vcQ x w b o a++rvQ x w b o r).length=_
  rw[List.length_append,Pj,Ge x w b o r,List.length_cons];omega
theorem bH(x:Flt)(w:World)(b o:Nat)(l r:List Nat):rvQ x w b o (l++r)=rvQ x w b o l++rvQ x w b o r:=by simp[rvQ]
theorem mR(x:Flt)(w:World)(b o:Nat):∀(l:List Nat)(j i t:Nat),l[j]?=some i->t<12->(rvQ x w b o l)[j*12+t]?=(vcQ x w b o i)[t]?
 |[],j,i,t,h,_=>by simp at h
 |a::r,0,i,t,h,ht=>by
  simp at h;subst h;show(vcQ x w b o a++rvQ x w b o r)[0*12+t]?=_
  rw[List.getElem?_append_left (by rw[Pj];omega)];simp
 |a::r,j+1,i,t,h,ht=>by
  show(vcQ x w b o a++rvQ x w b o r)[(j+1)*12+t]?=_
  rw[List.getElem?_append_right (by rw[Pj];omega),Pj,show(j+1)*12+t-12=j*12+t by omega];exact mR x w b o r j i t (by simpa using h) ht
theorem Ty(x:Flt)(w:World)(b o:Nat)(l:List Nat):∀u∈rvQ x w b o l,u.oneCell'=true:=by
 intro u hu;obtain⟨i,_,h⟩:=List.mem_flatMap.1 hu;exact lH x w b o i u h
theorem tT(x:Flt)(w:World)(b o:Nat)(l:List Nat)(j:Nat):rvQ x w b o (l.drop j)=(rvQ x w b o l).drop (j*12):=by
 by_cases h:j<=l.length
 .have e:rvQ x w b o l=rvQ x w b o (l.take j)++rvQ x w b o (l.drop j):=by rw[<-bH,List.take_append_drop]
  have hl:(rvQ x w b o (l.take j)).length=j*12:=by rw[Ge,List.length_take,Nat.min_eq_left h]
  rw[e,List.drop_left' hl]
 rw[List.drop_eq_nil_of_le (by omega),List.drop_eq_nil_of_le (by rw[Ge];omega)];rfl
theorem Ub(x:Flt)(w:World)(b o:Nat)(l:List Nat)(j:Nat):rvQ x w b o (l.take j)=(rvQ x w b o l).take (j*12):=by
 by_cases h:j<=l.length
 .have e:rvQ x w b o l=rvQ x w b o (l.take j)++rvQ x w b o (l.drop j):=by rw[<-bH,List.take_append_drop]
  have hl:(rvQ x w b o (l.take j)).length=j*12:=by rw[Ge,List.length_take,Nat.min_eq_left h]
  rw[e,List.take_left' hl]
 rw[List.take_of_length_le (by omega),List.take_of_length_le (by rw[Ge];omega)]
theorem Js{base g q n:Nat}{w wy:World}{x:Flt}{b o:Nat}{l:List Nat}(h:wy.ownsRow base 54 12 (sP g 0 n q) n (rvQ x w b o l))(hn:n=l.length){j:Nat}{u:Value}(hj:(rvQ x w b o l)[j]?=some u):wy.cell? (E g j)=some u:=by
 subst hn;have hjl:=Af hj;rw[Ge]at hjl;have:=h.cellAt j (by first|omega|(rw[Ge];omega));rw[this,hj]
theorem gZ{base g q n:Nat}{w wy:World}{x:Flt}{b o:Nat}{l:List Nat}(h:wy.ownsRow base 54 12 (sP g 0 n q) n (rvQ x w b o l))(hn:n=l.length){j i:Nat}(hj:l[j]?=some i):wy.rangeAt g (j*12) (vcQ x w b o i):=by
 intro t u ht;have htl:t<12:=by have:=Af ht;rw[Pj]at this;exact this
 exact Js h hn ((mR x w b o l j i t hj htl).trans ht)
theorem vI{base g q n:Nat}{w:World}{is:List Value}(h:w.ownsRow base 54 12 (sP g 0 n q) n is):n<=q:=by
 rcases h.2 with⟨h1,_⟩|⟨g',cap,cur,h1,_,_,h4⟩
 .cases h1
 cases h1
 exact h4.1
end Go.Proofs.YthboopnmbglkjaaGreat
