import Derived.Test.YtpidfnfilnkhkaaGreatJ32
import Derived.Defers
set_option maxHeartbeats 8000000
set_option maxRecDepth 100000
namespace Go.Proofs.YtpidfnfilnkhkaaGreat
open Go.RowKit Tryz
theorem yS(y:Cpy)(s:BA)(v:Value):vCp {y with at_:=s} v=(vCp y v).set 11 (.string s):=rfl
theorem AG{base G q:Nat}{w:World}{l:List Cpy}{cs:List Value}{i:Nat}{y:Cpy}(s:BA)(hl:cs.length=l.length*12)(h2:NAt vCp Cpy.likes LikC 2 12 base (.slice (some ⟨G,0,none⟩) l.length q) w cs l)(hi:l[i]?=some y) :
  NAt vCp Cpy.likes LikC 2 12 base (.slice (some ⟨G,0,none⟩) l.length q) (w.setCell ⟨G,i*12+11,none⟩ (.string s)) (cs.set (i*12+11) (.string s)) (l.set i {y with at_:=s}):=by
 have hil:=Ac hi;have hg:=Dq w ⟨G,i*12+11,none⟩ (.string s);intro j x hj;by_cases e:j=i
 .subst e
  rw[List.getElem?_set_self hil]at hj;cases hj
  obtain⟨ae,ce,q1,q2,q3⟩:=h2 j y hi;refine⟨ae,ce,λt u hu=>?_,Ce LikC.flat q2 hg (λb o e hn=>(q3 b o e hn).1),λb o e hn=>⟨(q3 b o e hn).1,lL (q3 b o e hn).2 hg.size⟩⟩;rw[yS]at hu;have ht:t<12:=by
   have:=Ac hu
   rwa [List.length_set,Nj]at this
  by_cases e:t=11
  .subst e
   rw[List.getElem?_set_self (by rw[Nj];omega)]at hu;rw[List.getElem?_set_self (by omega),<-hu]
  .rw[List.getElem?_set_ne (by omega)]at hu⊢
   exact q1 t u hu
 .rw[List.getElem?_set_ne (λh=>e h.symm)]at hj
  obtain⟨ae,ce,q1,q2,q3⟩:=h2 j x hj;refine⟨ae,ce,λt u hu=>?_,Ce LikC.flat q2 hg (λb o e hn=>(q3 b o e hn).1),λb o e hn=>⟨(q3 b o e hn).1,lL (q3 b o e hn).2 hg.size⟩⟩;have ht:t<12:=by
   have:=Ac hu
   rwa [Nj]at this
  rw[List.getElem?_set_ne (by omega)];exact q1 t u hu
theorem OwnN.setAt{base G q:Nat}{w:World}{l:List Cpy}{i:Nat}{y:Cpy}(h:Rk base w (.slice (some ⟨G,0,none⟩) l.length q) l)(hi:l[i]?=some y)(s:BA):Rk base (w.setCell ⟨G,i*12+11,none⟩ (.string s)) (.slice (some ⟨G,0,none⟩) l.length q) (l.set i {y with at_:=s}):=by
 obtain⟨cs,h1,h2⟩:=h;refine⟨cs.set (i*12+11) (.string s),?_,AG s h1.1 h2 hi⟩;rw[List.length_set];exact(h1.stored (i*12+11) (.string s)).1
theorem OwnN.atCell{base G q:Nat}{w:World}{l:List Cpy}{i:Nat}{y:Cpy}(h:Rk base w (.slice (some ⟨G,0,none⟩) l.length q) l)(hi:l[i]?=some y):w.cell? ⟨G,i*12+11,none⟩=some (.string y.at_)/\w.frozen? ⟨G,i*12+11,none⟩=false:=by
 obtain⟨cs,h1,h2⟩:=h;have hil:=Ac hi;obtain⟨ae,ce,q1,_⟩:=h2 i y hi;exact⟨(h1.cellAt _ (by omega)).trans (q1 11 _ rfl),h1.frozenAt _⟩
theorem alT(w:World)(A B:Array Value)(s t:TypeId):∃w0,w0=(w.alloc (Obj.cells A s)).alloc (Obj.cells B t)/\Hid (Blk w.heap.size A s w0)/\Hid (Blk (w.heap.size+1) B t w0)/\Hid (Below w.heap.size w w0):=by
 have h9:=Blk.alloc (w.alloc (Obj.cells A s)) B t;exact⟨_,rfl,(Blk.alloc w A s).below ((Below.refl _ _).alloc nL _) (Blk.alloc w A s).lt,(by show Blk _ _ _ _;simpa using h9),((Below.refl _ _).alloc nL _).alloc (by simp) _⟩
theorem alU(w:World)(A B C:Array Value)(s t u:TypeId):∃w0,w0=((w.alloc (Obj.cells A s)).alloc (Obj.cells B t)).alloc (Obj.cells C u)/\Hid (Blk w.heap.size A s w0)/\Hid (Blk (w.heap.size+1) B t w0)/\Hid (Blk (w.heap.size+2) C u w0)/\Hid (Below w.heap.size w w0):=by
 obtain⟨w1,e1,h1,h2,h3⟩:=alT w A B s t;have hb:=(Below.refl _ w1).alloc nL (Obj.cells C u);have hs:w1.heap.size=w.heap.size+2:=by rw[e1];simp
 have h9:=Blk.alloc w1 C u;rw[hs]at h9;exact⟨_,by rw[e1],h1.out.below hb h1.out.lt,h2.out.below hb h2.out.lt,h9,qTr h3.out hb⟩
def rcV(y:Cpy)(a7:OA)(c7:Nat):List Value:=(ccL y a7 c7)
theorem Tf(y:Cpy)(a7:OA)(c7:Nat):(rcV y a7 c7).length=12:=rfl
theorem zG(y:Cpy)(s:BA)(a7:OA)(c7:Nat):rcV {y with at_:=s} a7 c7=(rcV y a7 c7).set 11 (.string s):=rfl
def OwnCT(lo B:Nat)(w:World)(v:Value)(l:List Cpy):Prop:=∃(G q:Nat)(cs:List Value),v=.slice (some ⟨G,0,none⟩) l.length q/\w.ownsRow B 49 12 v l.length cs/\∀j y,l[j]?=some y->∃(a7:OA)(c7:Nat),(∀t u,(rcV y a7 c7)[t]?=some u->cs[j*12+t]?=some u)/\SliceC LikC 2 lo w a7 y.likes/\(y.likes≠[]->∀b o,a7=some ⟨b,o,none⟩->b<G)
theorem Ew{w w':World}{base:Nat}{e:TypeId}{size G q n:Nat}{xs:List Value}(h:w.ownsRow base e size (.slice (some ⟨G,0,none⟩) n q) n xs)(hk:w'.heap[G]?=w.heap[G]?):w'.ownsRow base e size (.slice (some ⟨G,0,none⟩) n q) n xs:=by
 refine⟨h.1,?_⟩;rcases h.2 with h2|⟨g,cap,cur,h1,hb,hg,h3⟩
 .exact .inl h2
 .cases h1
  exact .inr ⟨G,q,cur,rfl,hb,hk.trans hg,h3⟩
theorem OwnCT.lt{lo B G q:Nat}{w:World}{l:List Cpy}(h:OwnCT lo B w (.slice (some ⟨G,0,none⟩) l.length q) l):G<w.heap.size:=by
 obtain⟨G',q',cs,e,h1,_⟩:=h;cases e
 exact(h1.lt G rfl).2
theorem OwnCT.ge{lo B G q:Nat}{w:World}{l:List Cpy}(h:OwnCT lo B w (.slice (some ⟨G,0,none⟩) l.length q) l):B<=G:=by
 obtain⟨G',q',cs,e,h1,_⟩:=h;cases e
 exact(h1.lt G rfl).1
theorem OwnCT.cells{lo B G q:Nat}{w:World}{l:List Cpy}(h:OwnCT lo B w (.slice (some ⟨G,0,none⟩) l.length q) l):∃cs t f,w.heap[G]?=some (Obj.cells cs t f):=by
 obtain⟨G',q',cs,e,h1,_⟩:=h;cases e
 rcases h1.2 with⟨h2,_⟩|⟨g,cap,cur,h2,_,hg,_⟩
 .cases h2
 .cases h2
  exact⟨_,_,_,hg⟩
theorem OwnCT.keep{lo B G q:Nat}{w w':World}{l:List Cpy}(h:OwnCT lo B w (.slice (some ⟨G,0,none⟩) l.length q) l)(hG:w'.heap[G]?=w.heap[G]?)(k:Keeps lo w w'):OwnCT lo B w' (.slice (some ⟨G,0,none⟩) l.length q) l:=by
 obtain⟨G',q',cs,e,h1,h2⟩:=h;cases e
 refine⟨G,q,cs,rfl,Ew h1 hG,λj y hj=>?_⟩;obtain⟨a7,c7,q1,q2,q3⟩:=h2 j y hj;exact⟨a7,c7,q1,q2.keep LikC.holds k nL,q3⟩
theorem OwnCT.below{lo B G q:Nat}{w w':World}{l:List Cpy}(h:OwnCT lo B w (.slice (some ⟨G,0,none⟩) l.length q) l)(hb:Below w.heap.size w w'):OwnCT lo B w' (.slice (some ⟨G,0,none⟩) l.length q) l:=h.keep (hb.block G h.lt) (Keeps.of_below hb nL lo)
theorem OwnCT.atCell{lo B G q:Nat}{w:World}{l:List Cpy}{i:Nat}{y:Cpy}(h:OwnCT lo B w (.slice (some ⟨G,0,none⟩) l.length q) l)(hi:l[i]?=some y):w.cell? ⟨G,i*12+11,none⟩=some (.string y.at_)/\w.frozen? ⟨G,i*12+11,none⟩=false:=by
 have hil:=Ac hi;obtain⟨G',q',cs,e,h1,h2⟩:=h;cases e
 obtain⟨a7,c7,q1,_⟩:=h2 i y hi;have hl:cs.length=l.length*12:=h1.1;exact⟨(h1.cellAt _ (by omega)).trans (q1 11 _ rfl),h1.frozenAt _⟩
theorem Vu{lo G i:Nat}{w:World}{a:OA}{l:List Lik}{v:Value}(h:SliceC LikC 2 lo w a l)(hn:l≠[]->∀b o,a=some ⟨b,o,none⟩->b≠G):SliceC LikC 2 lo (w.setCell ⟨G,i,none⟩ v) a l:=by
 refine⟨h.1,?_⟩;rcases h.2 with h2|⟨b,o,rfl,h3,h4,h5⟩
 .exact .inl h2
 by_cases hl:l=[]
 .exact .inl hl
 have hne:=hn hl b o rfl;refine .inr ⟨b,o,rfl,⟨h3.1,λhp p=>(World.frozen?_setCell _ _ _ _).trans (h3.2 hp p)⟩,by simpa[World.setCell]using h4,λj x hj=>?_⟩;obtain⟨q0,q1,q2⟩:=h5 j x hj;have hc:∀p,(w.setCell ⟨G,i,none⟩ v).cell? ⟨b,p,none⟩=w.cell? ⟨b,p,none⟩:=λp=>World.cell?_of_block (w:=w) (a:=⟨b,p,none⟩) (Below.heap_setCell w _ _ b hne)
 exact⟨(hc _).trans q0,(hc _).trans q1,q2⟩
theorem OwnCT.setAt{lo B G q:Nat}{w:World}{l:List Cpy}{i:Nat}{y:Cpy}(h:OwnCT lo B w (.slice (some ⟨G,0,none⟩) l.length q) l)(hi:l[i]?=some y)(s:BA):OwnCT lo B (w.setCell ⟨G,i*12+11,none⟩ (.string s)) (.slice (some ⟨G,0,none⟩) l.length q) (l.set i {y with at_:=s}):=by
 have hil:=Ac hi;obtain⟨G',q',cs,e,h1,h2⟩:=h;cases e
 have hl:cs.length=l.length*12:=h1.1;refine⟨G,q,cs.set (i*12+11) (.string s),by rw[List.length_set],by rw[List.length_set];exact(h1.stored (i*12+11) (.string s)).1,λj x hj=>?_⟩;by_cases e:j=i
 .subst e
  rw[List.getElem?_set_self hil]at hj;cases hj
  obtain⟨a7,c7,q1,q2,q3⟩:=h2 j y hi;refine⟨a7,c7,λt u hu=>?_,Vu q2 (λk1 b o k2=>Nat.ne_of_lt (q3 k1 b o k2)),q3⟩;rw[zG]at hu;have ht:t<12:=by
   have:=Ac hu
   rwa [List.length_set,Tf]at this
  by_cases e:t=11
  .subst e
   rw[List.getElem?_set_self (by rw[Tf];omega)]at hu;rw[List.getElem?_set_self (by omega),<-hu]
  .rw[List.getElem?_set_ne (by omega)]at hu⊢
   exact q1 t u hu
 .rw[List.getElem?_set_ne (λh=>e h.symm)]at hj
  obtain⟨a7,c7,q1,q2,q3⟩:=h2 j x hj;refine⟨a7,c7,λt u hu=>?_,Vu q2 (λk1 b o k2=>Nat.ne_of_lt (q3 k1 b o k2)),q3⟩;have ht:t<12:=by
   have:=Ac hu
   rwa [Tf]at this
  rw[List.getElem?_set_ne (by omega)];exact q1 t u hu
theorem OwnCT.copies{lo B G q:Nat}{w:World}{l:List Cpy}(h:OwnCT lo B w (.slice (some ⟨G,0,none⟩) l.length q) l)(hz:SzC l)(hm:l.length<=maxLen)(hB:lo<=B):SliceC CpyC 12 lo w (some ⟨G,0,none⟩) l:=by
 have hge:=h.ge;have hlt:=h.lt;obtain⟨G',q',cs,e,h1,h2⟩:=h;cases e
 have hl:cs.length=l.length*12:=h1.1;refine⟨hm,.inr ⟨G,0,rfl,⟨by omega,λ_ p=>h1.frozenAt p⟩,hlt,λj y hj=>?_⟩⟩;have hjl:=Ac hj;obtain⟨a7,c7,q1,q2,_⟩:=h2 j y hj;obtain⟨z0,z1,z6,z9,z10,z11⟩:=hz y (List.mem_of_getElem? hj);have hc:∀t u,(rcV y a7 c7)[t]?=some u->w.cell? ⟨G,0+j*12+t,none⟩=some u:=λt u hu=>by
  have ht:t<12:=by
   have:=Ac hu
   rwa [Tf]at this
  rw[Nat.zero_add];exact(h1.cellAt _ (by omega)).trans (q1 t u hu)
 exact⟨a7,c7,hc 0 _ rfl,hc 1 _ rfl,hc 2 _ rfl,hc 3 _ rfl,hc 4 _ rfl,hc 5 _ rfl,hc 6 _ rfl,hc 7 _ rfl,hc 8 _ rfl,hc 9 _ rfl,hc 10 _ rfl,hc 11 _ rfl,z0,z1,z6,z9,z10,z11,q2⟩
theorem xM{P:Program}{f:FuncId}{fn:Func}{c:Code}{args:Array Value}{w:World}{R:Ending->World->Prop}(hf:P.funcs[f]?=some fn)(hb:fn.body=some c)(h:c.wp P (bodyPost P fn R) {tmps:=args++Array.replicate (fn.ntmps-args.size) undef,defers:=[]} w):Calls P f args w R/\∀u,CallsD P f args u w λe u' w'=>u'=u/\R e w':=⟨calls_of_wp hf hb h,λ_=>callsD_of_wp hf hb h⟩
def MvR(G q B N:Nat)(l:List Cpy)(w:World)(e:Ending)(w':World):Prop:=e=.returned (.tuple #[])/\OwnCT B N w' (.slice (some ⟨G,0,none⟩) l.length q) l/\But G w.heap.size w w'
theorem dO(p G q B N:Nat)(l:List Cpy)(s:BA)(pl:List Nat)(pa:OA)(pc lo:Nat)(w:World)(hp:w.cell? ⟨p,3,none⟩=some (.slice (some ⟨G,0,none⟩) l.length q))(hpG:p≠G)(ho:OwnCT B N w (.slice (some ⟨G,0,none⟩) l.length q) l)(hps:SliceC IntC 1 lo w pa (plI pl))(hpa:pl≠[]->∀b o,pa=some ⟨b,o,none⟩->b≠G)(hin:∀(j t:Nat),pl[j]?=some t->t<l.length)(hsm:pl.length<=1048576) :
  Calls prog 86 #[.pointer (some ⟨p,0,none⟩),.slice pa pl.length pc,.string s] w (MvR G q B N (atP pl s l) w)/\∀u,CallsD prog 86 #[.pointer (some ⟨p,0,none⟩),.slice pa pl.length pc,.string s] u w λe u' w'=>u'=u/\MvR G q B N (atP pl s l) w e w':=by
 have HO:Hid (OwnCT B N w (.slice (some ⟨G,0,none⟩) l.length q) (atP (pl.take 0) s l)):=by
  show OwnCT _ _ _ _ _
  rw[List.take_zero,mI];exact ho
 have HPS:=iH hps;have HP:=iH hp;have hpw:p<w.heap.size:=World.block_lt_of_cell? w _ hp;have HPA:=iH hpa;have HIN:=iH hin;clear ho hps hp hpa hin;refine xM func86 rfl ?_;simp only[ntmps86,List.size_toArray,List.length_cons,List.length_nil,Nat.reduceAdd,Nat.reduceSub,Array.replicate_succ,Array.replicate_zero,List.push_toArray,List.append_toArray,List.nil_append,List.cons_append]
 go_wp2
 go_loopw [10] (λi wr=>∃k:Nat,k<=pl.length/\i=.int .i64 k/\Hid (OwnCT B N wr (.slice (some ⟨G,0,none⟩) l.length q) (atP (pl.take k) s l))/\Hid (But G w.heap.size w wr)) (λi _=>pl.length-(intOf i).toNat)
 case atStart=>exact⟨0,zL,rfl,HO,But.refl _ _ _⟩
 case round =>
  clear HO;obtain⟨k,hk,rfl,hO,hB⟩:=hrel;by_cases hlt:k<pl.length
  .obtain⟨t,ht⟩:=gXe hlt
   have htl:=HIN.out k t ht;obtain⟨c,hc⟩:∃c,(atP (pl.take k) s l)[t]?=some c:=⟨(atP (pl.take k) s l)[t]'(by rw[Bz];exact htl),gE _⟩;obtain⟨b',o',rfl,_,hbw,hcp⟩:=HPS.out.at (Ro ht);have t0:_=_:=hcp;simp only[Nat.mul_one,Nat.add_zero]at t0;have t1:wr.cell? ⟨b',o'+k,none⟩=some (.int .i64 (t:Int)):=(hB.out.cell (a:=⟨b',o'+k,none⟩) hbw (HPA (λe=>by rw[e]at hlt;cases hlt) _ _ rfl)).trans t0;have t2:wr.cell? ⟨p,3,none⟩=some (.slice (some ⟨G,0,none⟩) l.length q):=(hB.out.cell (a:=⟨p,3,none⟩) hpw hpG).trans HP;have hO':=hO.out;rw[show Value.slice (some ⟨G,0,none⟩) l.length q=.slice (some ⟨G,0,none⟩) (atP (pl.take k) s l).length q by rw[Bz]]at hO';obtain⟨kz,fz⟩:=hO'.atCell hc;have HO2:Hid (OwnCT B N (wr.setCell ⟨G,t*12+11,none⟩ (.string s)) (.slice (some ⟨G,0,none⟩) l.length q) (atP (pl.take (k+1)) s l)):=by
    have h9:=hO'.setAt hc s;rw[eN ht hc,Bz]at h9;exact h9
   have HB2:Hid (But G w.heap.size w (wr.setCell ⟨G,t*12+11,none⟩ (.string s))):=hB.out.set _ _;clear hcp t0 hO' ht hc hO hB
   go_wp2
   go_roundw
   case rel=>exact⟨k+1,by omega,by go_num,HO2,HB2⟩
   case measure=>simp[intOf];omega
  .have hke:k=pl.length:=by omega
   subst hke;have HO3:Hid (OwnCT B N wr (.slice (some ⟨G,0,none⟩) (atP pl s l).length q) (atP pl s l)):=by
    have h9:=hO.out;rw[List.take_length]at h9;show OwnCT _ _ _ _ _
    rw[Bz];exact h9
   clear hO;go_wp2_with fail
   first|go_end0|refine bodyPost_ret (results_none rfl _ _ _) rfl ?_
   exact⟨rfl,HO3,hB.out⟩
open Go.WideMaps Go.Maps Tryz
theorem uB(lo:Nat)(p m1 m2 m3 m4 ci bi:Nat)(x:Flt)(a1:OA)(c1:Nat)(a2:OA)(c2:Nat)(a3:OA)(c3:Nat)(y:Cpy)(a7:OA)(c7:Nat)(b:Brt)(am:OA)(cm:Nat)(u1 u2 u3:Int)(w:World)(hK:SpotK w lo ci bi x a1 a3 y a7 b am)(h2:0<=u2/\u2<=60000)(h3:0<=u3/\u3<=60000)(hF:FoundM p m1 m2 m3 m4 (y.select,bi) x a1 c1 a2 c2 a3 c3 w) :
  Calls prog 58 #[.agg (Ai p ci bi y a7 c7 b am cm u1 u2 u3)] w λe w'=>e=.returned (.bool (decide (Fw (Kh x ci y b u1 u2 u3)=0)))/\MemoAt m4 (y.select,bi) x.berths w'/\But m4 w.heap.size w w':=by
 have HK:=iH hK;have HF:=iH hF;have hb0:=(Below.refl _ w).alloc nL (Obj.cells (Ai p ci bi y a7 c7 b am cm u1 u2 u3) 60);have HX:=iH (Blk.alloc w (Ai p ci bi y a7 c7 b am cm u1 u2 u3) 60);have HF0:=iH (hF.below hb0);have HK0:=iH (hK.keep (Keeps.of_below hb0 nL lo));have HB0:Hid (But m4 w.heap.size w (w.alloc (Obj.cells (Ai p ci bi y a7 c7 b am cm u1 u2 u3) 60))):=But.of_below hb0;have hs0:w.heap.size<(w.alloc (Obj.cells (Ai p ci bi y a7 c7 b am cm u1 u2 u3) 60)).heap.size:=by simp
 obtain⟨fr,hfr⟩:∃fr,fr=Fw (Kh x ci y b u1 u2 u3):=⟨_,rfl⟩;have HFR:=iH hfr;have hm4w:m4<w.heap.size:=hF.memo.lt;clear hK hF;go_enter func58,ntmps58;go_upto_region 1 with fail;clear hb0;generalize w.alloc (Obj.cells (Ai p ci bi y a7 c7 b am cm u1 u2 u3) 60)=w0 at *;refine wp_region_held_drew (S:=λwy=>wy.rangeAt w.heap.size 0 (Ai p ci bi y a7 c7 b am cm u1 u2 u3).toList) (by kernel_rfl) (Bt HX.out.rangeA) (λhS=>?_);refine tk 1 ⟨some 4,_,_,_,_,none⟩ (.agg (Ai p ci bi y a7 c7 b am cm u1 u2 u3)) rfl (yieldsIf_load_mid rfl 60 (.tmp 1) rfl w.heap.size 0 rfl (Ai p ci bi y a7 c7 b am cm u1 u2 u3).toList _ (λ_ h=>h) underlying60 rfl Bk) hS ?_;refine rd1 0 ⟨some 3,_,_,_,_,none⟩ rfl (λK hK=>?_);go_simp;refine(uL _).mono ?_;rintro e w3⟨g,G,rfl,hr3,hg1,hg2,hb3⟩;have hd3:Below w0.heap.size w0 w3:=(Below.refl _ w0).drew.trans hb3;have HB3:Hid (But m4 w.heap.size w w3):=HB0.out.trans (But.of_below (hd3.mono (by omega)));have HF3:=iH (HF0.out.below hd3);have HK3:=iH (HK0.out.keep (Keeps.of_below hd3 nL lo));have HR:=iH (iQ x ci y b u1 u2 u3 hr3);have hgm:g≠m4:=by
  have h2:w0.heap.size<=g:=hg1;omega
 have hsz3:w0.heap.size<=w3.heap.size:=hd3.size;refine hK.out _ _ (Ae hS hb3 hs0) (λhS=>?_);clear hK K hd3 hb3 hr3;refine rd1 2 ⟨some 5,_,_,_,_,none⟩ rfl (λK hK=>?_);go_simp;refine(Sj lo p m1 m2 m3 m4 ci bi x a1 c1 a2 c2 a3 c3 y a7 c7 b am cm u1 u2 u3 (Kh x ci y b u1 u2 u3) g G w3 HK3 (Nat.le_refl 8) (λW hk k r h=>Yn W lo p m1 m2 m3 m4 ci bi x a1 c1 a2 c2 a3 c3 y a7 c7 b am cm u1 u2 u3 hk h2 h3 r (List.mem_of_getElem? h)) (λk r h=>Rx x ci y b u1 u2 u3 r (List.mem_of_getElem? h)) HF3 HR hg2 hgm).mono ?_;rintro e w4⟨rfl,hm5,hb4⟩;have HB4:Hid (But m4 w.heap.size w w4):=HB3.out.trans (hb4.mono (by omega));have HM4:=iH hm5;rw[<-HFR.out];refine hK.out _ _ (λj v hj=>(hb4.cell (a:=⟨w.heap.size,0+j,none⟩) (by show w.heap.size<w3.heap.size;omega) (by show w.heap.size≠m4;omega)).trans (hS j v hj)) (λhS=>?_);clear hK K hb4 hm5;refine ty 3 ⟨some 6,_,_,_,_,none⟩ (.bool (decide (fr=0))) ?_ ?_
 .intro wy hy
  clear hy
  (go_simp;rfl)
 refine tz 4 2 (.bool (decide (fr=0))) ?_;refine td ?_;clear hS;obtain⟨qq,hqq⟩:∃q,q=decide (fr=0):=⟨_,rfl⟩;have HQ:Hid (qq=decide (Fw (Kh x ci y b u1 u2 u3)=0)):=by rw[HFR.out]at hqq;exact hqq
 rw[<-hqq];clear hqq
 go_wp2
 go_ret;exact⟨Ab HQ,HM4,HB4⟩
theorem Ns{H:Type}{P:Program}{k:TypeId}{R:Value->Option (DataW H×List MemPlace)}{m n G:Nat}{D:DataW H}{w:World}(h:w.ownsMap P k R m n D)(hG:∃cs t f,w.heap[G]?=some (Obj.cells cs t f)):m≠G:=by
 rintro rfl;obtain⟨es,cl,g1,_⟩:=h;obtain⟨cs,t,f,g2⟩:=hG;rw[g1]at g2;cases g2
theorem FoundM.moved{p m1 m2 m3 m4:Nat}{n:BA×Nat}{x:Flt}{a1:OA}{c1:Nat}{a2:OA}{c2:Nat}{a3:OA}{c3:Nat}{G:Nat}{x':Flt}{w w':World}(h:FoundM p m1 m2 m3 m4 n x a1 c1 a2 c2 a3 c3 w)(hb:But G w.heap.size w w')(hpG:p≠G)(hG:∃cs t f,w.heap[G]?=some (Obj.cells cs t f))(e0:x'.pack=x.pack)(e1:x'.berths=x.berths)(e2:x'.services=x.services)(e3:x'.copies.map (·.name)=x.copies.map (·.name)):FoundM p m1 m2 m3 m4 n x' a1 c1 a2 c2 a3 c3 w':=by
 obtain⟨h1,h2,h3,h4,h5,⟨n',D',k1,k2,k3⟩,h7,h8,h9,h10⟩:=h;have el:x'.copies.length=x.copies.length:=by
  have:=congrArg List.length e3;simpa using this
 have ez:x'.copies≠[]->x.copies≠[]:=λq e=>q (List.length_eq_zero_iff.1 (by rw[el,e];rfl))
 unfold FoundM
 try unfold uP
 rw[e0,e1,e2,e3,el];exact⟨λj v hj=>(hb.cell (a:=⟨p,0+j,none⟩) h2 hpG).trans (h1 j v hj),lL h2 hb.size,hb.owns h3 h3.lt (Ns h3 hG),hb.owns h4 h4.lt (Ns h4 hG),hb.owns h5 h5.lt (Ns h5 hG),⟨n',D',k1,hb.owns k2 k2.lt (Ns k2 hG),k3⟩,h7,h8,h9,λq=>h10 (ez q)⟩
def Bt2(g m:Nat)(w w':World):Prop:=(w'.os=w.os/\w'.tape=w.tape/\w'.output=w.output)/\w.heap.size<=w'.heap.size/\∀k,k<w.heap.size->k≠g->k≠m->w'.heap[k]?=w.heap[k]?
theorem Bt2.of1{g m:Nat}{w w':World}(h:But g w.heap.size w w'):Bt2 g m w w':=⟨⟨h.os,h.tape,h.output⟩,h.size,λk h1 h2 _=>h.block k h1 h2⟩
theorem Bt2.of2{g m:Nat}{w w':World}(h:But m w.heap.size w w'):Bt2 g m w w':=⟨⟨h.os,h.tape,h.output⟩,h.size,λk h1 _ h3=>h.block k h1 h3⟩
theorem Bt2.trans{g m:Nat}{a b c:World}(h:Bt2 g m a b)(k:Bt2 g m b c):Bt2 g m a c:=⟨⟨k.1.1.trans h.1.1,k.1.2.1.trans h.1.2.1,k.1.2.2.trans h.1.2.2⟩,lT h.2.1 k.2.1,λx h1 h2 h3=>(k.2.2 x (lL h1 h.2.1) h2 h3).trans (h.2.2 x h1 h2 h3)⟩
theorem Bt2.below{g m N:Nat}{w w':World}(h:Bt2 g m w w')(hN:N<=w.heap.size)(hg:N<=g)(hm:N<=m):Below N w w':=⟨h.1.1,h.1.2.1,h.1.2.2,h.2.1,λk hk=>h.2.2 k (by omega) (by omega) (by omega)⟩
theorem Bt2.cell{g m:Nat}{w w':World}(h:Bt2 g m w w'){a:Addr}(h1:a.block<w.heap.size)(h2:a.block≠g)(h3:a.block≠m):w'.cell? a=w.cell? a:=World.cell?_of_block (w:=w) (h.2.2 a.block h1 h2 h3)
theorem gD{lo G:Nat}{w w':World}{pa:OA}{is:List Int}(h:SliceC IntC 1 lo w pa is)(hb:But G w.heap.size w w')(hp:is≠[]->∀b o,pa=some ⟨b,o,none⟩->b≠G):SliceC IntC 1 lo w' pa is:=by
 obtain⟨h1,h2⟩:=h;refine⟨h1,?_⟩;by_cases hz:is=[]
 .exact .inl hz
 rcases h2 with e|⟨b,o,e,⟨q1,q2⟩,q3,q4⟩
 .exact .inl e
 .have hne:=hp hz b o e
  have hbl:=hb.block b q3 hne;refine .inr ⟨b,o,e,⟨q1,λh0 p=>(World.frozen?_of_block (a:=⟨b,p,none⟩) hbl).trans (q2 h0 p)⟩,lL q3 hb.size,λj x hj=>?_⟩;have h9:_=_:=q4 j x hj;exact(World.cell?_of_block (a:=⟨b,_,none⟩) hbl).trans h9
theorem uF{pl:List Nat}(h:plI pl≠[]):pl≠[]:=λe=>h (by rw[e];rfl)
theorem yN{pl:List Nat}{s:BA}{l:List Cpy}{i:Nat}{y:Cpy}(h:l[i]?=some y)(hi:i∉pl):(atP pl s l)[i]?=some y:=by
 rw[Cu,h,Option.map_some,if_neg hi]
theorem aB{pl:List Nat}{l:List Cpy}(h:SzC l):SzC (atP pl ⟨#[]⟩ l):=by
 intro c hc;obtain⟨i,hi⟩:=List.getElem?_of_mem hc;rw[Cu]at hi;obtain⟨c0,h7,h8⟩:=Option.map_eq_some_iff.1 hi;have z:=h c0 (List.mem_of_getElem? h7);rw[<-h8]
 split
 .exact⟨z.1,z.2.1,z.2.2.1,z.2.2.2.1,z.2.2.2.2.1,by show(⟨#[]⟩:BA).size<=maxLen;decide⟩
 .exact z
theorem sC{p m1 m2 m3 m4:Nat}{n:BA×Nat}{x:Flt}{a1:OA}{c1:Nat}{a2:OA}{c2:Nat}{a3:OA}{c3:Nat}{w:World}(h:FoundM p m1 m2 m3 m4 n x a1 c1 a2 c2 a3 c3 w):FndIn p x a1 c1 a2 c2 a3 c3 w:=⟨h.1 1 _ rfl,h.1 2 _ rfl,h.1 3 _ rfl⟩
def IfR(p m1 m2 m3 m4:Nat)(n:BA×Nat)(x:Flt)(a1:OA)(c1:Nat)(a2:OA)(c2 G q lo B:Nat)(t:Bool)(w:World)(e:Ending)(w':World):Prop:=e=.returned (.bool t)/\FoundM p m1 m2 m3 m4 n x a1 c1 a2 c2 (some ⟨G,0,none⟩) q w'/\OwnCT lo B w' (.slice (some ⟨G,0,none⟩) x.copies.length q) x.copies/\Bt2 G m4 w w'
theorem kN(p m1 m2 m3 m4 ci bi:Nat)(x:Flt)(a1:OA)(c1:Nat)(a2:OA)(c2 G q lo B:Nat)(y:Cpy)(a7:OA)(c7:Nat)(b:Brt)(am:OA)(cm:Nat)(u1 u2 u3:Int)(pl:List Nat)(pa:OA)(pc lo2:Nat)(w:World)(hF:FoundM p m1 m2 m3 m4 (y.select,bi) x a1 c1 a2 c2 (some ⟨G,0,none⟩) q w)(hpG:p≠G)(ho:OwnCT lo B w (.slice (some ⟨G,0,none⟩) x.copies.length q) x.copies)(hlB:lo<=B)(hn1:∀w',Bt2 G m4 w w'->SliceC BrtC 6 lo w' a1 x.berths)(hv:Au x=true)(hy:x.copies[ci]?=some y)(hcp:ci∉pl)(hb:x.berths[bi]?=some b)(hsz:SzC x.copies)(hps:SliceC IntC 1 lo2 w pa (plI pl))(hpa:pl≠[]->∀b o,pa=some ⟨b,o,none⟩->b≠G/\b≠m4)(hin:∀(j t:Nat),pl[j]?=some t->t<x.copies.length)(hst:∀q,q∈pl->∀c,x.copies[q]?=some c->c.at_=b.name)(hsm:pl.length<=1048576)(fa:Nat)(cb:Array Value)(t:Bool)(heg:∀args w,(callFunc fa args).run prog w=.ok (.enter fa args) w)(hask:∀(w2:World) (a8:OA) (c8:Nat) (an:OA) (cn:Nat) (v1 v2 v3:Int),Bt2 G m4 w w2->SpotK w2 lo ci bi (woF x pl) a1 (some ⟨G,0,none⟩) y a8 b an->v1=Ba (woF x pl) ci b.name (woF x pl).copies.length->v2=Bn (woF x pl) ci b.name (woF x pl).copies.length->v3=Bq (woF x pl) ci b.name (woF x pl).copies.length->(0<=v2/\v2<=60000)->(0<=v3/\v3<=60000)->FoundM p m1 m2 m3 m4 (y.select,bi) (woF x pl) a1 c1 a2 c2 (some ⟨G,0,none⟩) q w2->Calls prog fa (#[.agg (Ai p ci bi y a8 c8 b an cn v1 v2 v3)]++cb) w2 λe w'=>e=.returned (.bool t)/\MemoAt m4 (y.select,bi) x.berths w'/\But m4 w2.heap.size w2 w') :
  Calls prog 57 #[.agg (Ai p ci bi y a7 c7 b am cm u1 u2 u3),.slice pa pl.length pc,.func (.func fa) #[] cb] w λe w'=>IfR p m1 m2 m3 m4 (y.select,bi) x a1 c1 a2 c2 G q lo B t w e w':=by
 have hil:=Ac hy;have hpw:p<w.heap.size:=hF.2.1;have e1:=Pm hb;have e2:=Sf hv hy;have e3:=Pm hy;obtain⟨_,l3,_,_,_,_⟩:=Aw hv;have hGc:∃cs t f,w.heap[G]?=some (Obj.cells cs t f):=ho.cells;have hm4w:m4<w.heap.size:=hF.memo.lt;have hm4G:m4≠G:=by
  obtain⟨_,_,_,k2,_⟩:=hF.memo;exact Ns k2 hGc
 have hGw:G<w.heap.size:=by
  exact ho.lt
 have hb0:=(Below.refl _ w).alloc nL (Obj.cells (Ai p ci bi y a7 c7 b am cm u1 u2 u3) 60);have HX:=iH (Blk.alloc w (Ai p ci bi y a7 c7 b am cm u1 u2 u3) 60);have hs0:w.heap.size<(w.alloc (Obj.cells (Ai p ci bi y a7 c7 b am cm u1 u2 u3) 60)).heap.size:=by simp
 have HF0:=iH (hF.below hb0);have HO0:=iH (ho.below hb0);have HPS0:=iH (hps.below IntC.holds hb0 nL);have HB0:Hid (Bt2 G m4 w (w.alloc (Obj.cells (Ai p ci bi y a7 c7 b am cm u1 u2 u3) 60))):=Bt2.of1 (But.of_below hb0);have HGC:Hid (∃cs t f,(w.alloc (Obj.cells (Ai p ci bi y a7 c7 b am cm u1 u2 u3) 60)).heap[G]?=some (Obj.cells cs t f)):=HO0.out.cells;have HN1:=iH hn1;have HV:=iH hv;have HY:=iH hy;have HBB:=iH hb;have HPA:=iH hpa;have HIN:=iH hin;have HST:=iH hst;have HSZ:=iH hsz;have HASK:=iH hask;have HE1:=iH e1;have HE2:=iH e2;have HE3:=iH e3;clear hask hF ho hps hn1 hv hy hb hpa hin hst hsz e1 e2 e3 hGc
 go_enter_defers func57,ntmps57
 go_upto_region 1 with fail;clear hb0;generalize w.alloc (Obj.cells (Ai p ci bi y a7 c7 b am cm u1 u2 u3) 60)=w0 at *;have k0:=HX.out.cell (o:=0) rfl;go_wp2_with fail;clear k0;refine(dO p G q lo B x.copies ⟨#[]⟩ pl pa pc lo2 w0 (HF0.out.1 3 _ rfl) hpG HO0 HPS0 (λh b o e=>(HPA h b o e).1) HIN hsm).1.mono ?_;rintro e w1⟨rfl,ho1,hb1⟩;have hs1:w0.heap.size<=w1.heap.size:=hb1.size;have HF1:Hid (FoundM p m1 m2 m3 m4 (y.select,bi) (woF x pl) a1 c1 a2 c2 (some ⟨G,0,none⟩) q w1):=HF0.out.moved hb1 hpG HGC rfl rfl rfl (Nn _ _ _);have HO1:=iH ho1;have HX1:Hid (Blk w.heap.size (Ai p ci bi y a7 c7 b am cm u1 u2 u3) 60 w1):=(hb1.block w.heap.size (by omega) (by omega)).trans HX;have HB1:Hid (Bt2 G m4 w w1):=HB0.out.trans (Bt2.of1 hb1);have HPS1:=iH (gD HPS0 hb1 (λh b o e=>(HPA (uF h) b o e).1));have HN11:=iH (HN1 w1 HB1);have HV1:=iH (cG HV pl);have HY1:Hid ((woF x pl).copies[ci]?=some y):=yN HY hcp;have n31:SliceC CpyC 12 lo w1 (some ⟨G,0,none⟩) (woF x pl).copies:=OwnCT.copies (G:=G) (q:=q) ho1 (aB HSZ) (by show(atP _ _ _).length<=_;rw[Bz];unfold maxLen;omega) hlB;have HN31:=iH n31;clear ho1 hb1 n31 HF0 HO0 HX HB0 HPS0 HGC;have k0:=HX1.out.cell (o:=0) rfl;have k1:=HX1.out.cell (o:=1) rfl;have k14:=HX1.out.cell (o:=14) rfl;have k15:=HX1.out.cell (o:=15) rfl;go_wp2_with fail;clear k0 k1 k14 k15;refine(Uf p (woF x pl) a1 c1 a2 c2 (some ⟨G,0,none⟩) q lo ci bi y b w1 (sC HF1) HN11 HN31 (by show(atP _ _ _).length<=_;rw[Bz];omega) HY1 HBB).mono ?_;rintro e w2⟨a8,c8,an,cn,rfl,s8,sn,_,hb2⟩;obtain⟨v1,hv1⟩:∃u:Int,u=(Ap (woF x pl).copies b.name ci (woF x pl).copies.length).1:=⟨_,rfl⟩;obtain⟨v2,hv2⟩:∃u:Int,u=(Ap (woF x pl).copies b.name ci (woF x pl).copies.length).2.1:=⟨_,rfl⟩;obtain⟨v3,hv3⟩:∃u:Int,u=(Ap (woF x pl).copies b.name ci (woF x pl).copies.length).2.2:=⟨_,rfl⟩;rw[<-hv1,<-hv2,<-hv3];have h60:=(Aw HV1).2.1;have HU1:=iH (hv1.trans (Xo ci b.name _ h60));have HU2:=iH (hv2.trans (dF ci b.name (λk c h=>((Bb HV1).2.2.2 k c h).1) _ h60));have HU3:=iH (hv3.trans (gF ci b.name (λk c h=>((De HV1).1 k c h).1) _ h60));have HR2:Hid (0<=v2/\v2<=60000):=by
  have:=Rq ci b.name (λk c h=>((Bb HV1).2.2.2 k c h).1) (woF x pl).copies.length;show _/\_
  rw[HU2.out];omega
 have HR3:Hid (0<=v3/\v3<=60000):=by
  have:=Rh ci b.name (λk c h=>((De HV1).1 k c h).1) (woF x pl).copies.length;show _/\_
  rw[HU3.out];omega
 have HF2:=iH (HF1.out.below hb2);have kp2:=Keeps.of_below hb2 nL lo;have HK2:Hid (SpotK w2 lo ci bi (woF x pl) a1 (some ⟨G,0,none⟩) y a8 b an):=SpotK.keep ⟨HN11,HN31,s8,sn,HV1,HY1,HBB⟩ kp2;have HO2:=iH (HO1.out.below hb2);have HB2:Hid (Bt2 G m4 w w2):=HB1.out.trans (Bt2.of1 (But.of_below hb2));have HPS2:=qSl IntC.holds HPS1 hb2;have hs2:w1.heap.size<=w2.heap.size:=hb2.size;clear hv1 hv2 hv3 h60 s8 sn hb2 kp2 HF1 HO1 HX1 HB1 HPS1 HN31 HN11;go_wp2_with fail;refine(HASK w2 a8 c8 an cn v1 v2 v3 HB2 HK2 HU1 HU2 HU3 HR2 HR3 HF2).mono ?_;rintro e w3⟨rfl,hm3,hb3⟩;have HF3:Hid (FoundM p m1 m2 m3 m4 (y.select,bi) (woF x pl) a1 c1 a2 c2 (some ⟨G,0,none⟩) q w3):=HF2.out.but hb3 hm3 HE1 HE2 (λe=>HE3.out (List.length_eq_zero_iff.1 (by rw[<-Bz pl ⟨#[]⟩ x.copies];exact congrArg List.length e)));have HO3:=iH (OwnCT.keep (G:=G) (q:=q) HO2 (hb3.block G (by omega) (λe=>hm4G e.symm)) (Zf hb3 HF2.out.memo hm3));have HB3:Hid (Bt2 G m4 w w3):=HB2.out.trans (Bt2.of2 hb3);have HPS3:=iH (gD HPS2 hb3 (λh b o e=>(HPA (uF h) b o e).2));have HGC3:Hid (∃cs t f,w3.heap[G]?=some (Obj.cells cs t f)):=HO3.out.cells;clear hm3 hb3 HF2 HO2 HB2 HPS2 HK2 HR2 HR3 HU1 HU2 HU3 HASK;go_wp2_with fail;refine leaves_cons (f:=86) (args:=#[.pointer (some ⟨p,0,none⟩),.slice pa pl.length pc,.string b.name]) (by simp) (by simp[go_sem]) ?_;have hmv:=(dO p G q lo B (woF x pl).copies b.name pl pa pc lo2 w3 (HF3.out.1 3 _ rfl) hpG HO3 HPS3 (λh b o e=>(HPA h b o e).1) (λj t h=>by show t<(atP _ _ _).length;rw[Bz];exact HIN.out j t h) hsm).2 .returning;rw[show atP pl b.name (woF x pl).copies=x.copies from qL HST.out]at hmv;refine hmv.mono ?_;rintro e u' w4⟨rfl,rfl,ho4,hb4⟩;refine⟨_,results_tmp rfl _ _ _,?_,HF3.out.moved hb4 hpG HGC3 rfl rfl rfl (Nn _ _ _).symm,ho4,HB3.out.trans (Bt2.of1 hb4)⟩;rfl
end Go.Proofs.YtpidfnfilnkhkaaGreat
