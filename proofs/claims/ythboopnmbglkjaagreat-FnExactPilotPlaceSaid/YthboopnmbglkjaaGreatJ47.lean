import Derived.Laws.IdiomStrings
import Derived.Test.YthboopnmbglkjaaGreatJ26
set_option maxHeartbeats 2000000
namespace Go.Proofs.YthboopnmbglkjaaGreat
open Tryz
set_option maxRecDepth 100000
open Go.RowKit Tryz
def dI(j:Nat):UInt8:=UInt8.ofNat (48+j%10)
def Yd:Nat->Nat->BA->BA
 |0,_,s=>s
 |f+1,j,s=>if j=0 then s else Yd f (j/10) (⟨#[dI j]⟩++s)
def Bp(k:Nat):BA:=⟨#[109]⟩++Yd 3000 k ⟨#[]⟩
theorem rY(f:Nat)(s:BA):Yd f 0 s=s:=by
 cases f with
 |zero=>rfl
 |succ f=>simp[Yd]
theorem zQ(j:Nat):((dI j).toNat:Int)=48+(j:Int)%10:=by
 have h:(dI j).toNat=48+j%10:=by
  unfold dI;rw[UInt8.toNat_ofNat'];omega
 rw[h];omega
theorem Ao(k:Nat)(w:World)(h0:0<k)(h1:k<=1073741824) :
  Calls prog 35 #[X k] w (Rt (Y (Bp k)) w):=by
 have HR:Hid (Bp k=⟨#[109]⟩++Yd 3000 k ⟨#[]⟩):=rfl;generalize Bp k=M at *;go_enter func35,ntmps35
 go_wp2
 go_loopw [0,3] (λv o wr=>∃(j f:Nat)(s:BA),v=X j/\o=Y s/\j<=1073741824/\Hid ((∃e,j<10^e/\e<=f)/\s.size+f=3000/\Yd f j s=Yd 3000 k ⟨#[]⟩)/\bW w wr) (λv _ _=>(intOf v).toNat)
 case atStart=>exact⟨k,3000,_,rfl,rfl,by omega,⟨⟨10,by omega,by omega⟩,rfl,rfl⟩,Below.refl _ _⟩
 obtain⟨j,f,s,rfl,rfl,hj,HF,hbel⟩:=hrel;by_cases hp:0<j
 .have hcv:(convert 125 9 (sP wr.heap.size 0 1 1)).run prog (wr.alloc (Obj.cells #[.int .u8 (48+(j:Int)%10)] 5))=.ok (Y ⟨#[dI j]⟩) (wr.alloc (Obj.cells #[.int .u8 (48+(j:Int)%10)] 5)) :=
   run_convert_bytes_back _ _ _ 5 (E wr.heap.size 0) 1 [dI j] underlying125 underlying5 underlying9 (λi hi=>by
    have:i=0:=by simpa using hi
    subst this;rw[<-zQ,Addr.add_mid,World.cell?_alloc_at _ _ _ _ (by rfl)]
    rfl)
  obtain⟨g,rfl⟩:∃g,f=g+1:=by
   obtain⟨e,he,hf⟩:=HF.out.1
   cases e with
   |zero=>simp at he;omega
   |succ e=>exact⟨f-1,by omega⟩
  have HN:Hid ((∃e,j/10<10^e/\e<=g)/\((⟨#[dI j]⟩:BA)++s).size+g=3000/\Yd g (j/10) (⟨#[dI j]⟩++s)=Yd 3000 k ⟨#[]⟩):=by
   obtain⟨a,b,c⟩:=HF.out;refine⟨?_,?_,?_⟩
   .obtain⟨e,he,hf⟩:=a
    cases e with
    |zero=>simp at he;omega
    |succ e=>exact⟨e,by rw[Nat.pow_succ]at he;omega,by omega⟩
   .rw[ByteArray.size_append]
    show 1+_+_=_
    omega
   rw[<-c];simp only[Yd];rw[if_neg (by omega)]
  have hss:s.size<=3000:=by have:=HF.out.2.1;omega
  clear HF
  go_wp2
  go_roundw
  case rel=>exact⟨j/10,g,_,by congr 1,rfl,by omega,HN,hbel.alloc hbel.size _⟩
  simp[intOf];omega
 have hj0:j=0:=by omega
 subst hj0;have HS:Hid (M=⟨#[109]⟩++s):=by
  show _=_
  rw[HR.out,<-HF.out.2.2,rY]
 have hss:s.size<=3000:=by have:=HF.out.2.1;omega
 clear HF
 go_wp2
 go_ret;exact⟨by rw[HS.out];rfl,hbel⟩
def b3W(t:Nat):Bool:=decide ((t:Int).tmod 3=0)
def mvK(c t:Nat):Value:=match c with
 |0=>Y (Bp t)
 |1=>X ((t:Nat):Int)
 |_=>.bool (b3W t)
structure Wr (L:List (Nat×Nat×Nat)) (w w':World):Prop where
 os:w'.os=w.os
 tape:w'.tape=w.tape
 output:w'.output=w.output
 size:w.heap.size<=w'.heap.size
 block:∀b,b<w.heap.size->(∀o c,(b,o,c)∉L)->w'.heap[b]?=w.heap[b]?
 cell:∀b o,b<w.heap.size->(∀c,(b,o,c)∉L)->w'.cell? (E b o)=w.cell? (E b o)
 frozen:∀b o,b<w.heap.size->w'.frozen? (E b o)=w.frozen? (E b o)
 there:∀b o v,w.cell? (E b o)=some v->∃u,w'.cell? (E b o)=some u
theorem Wr.refl(w:World):Wr [] w w:=⟨rfl,rfl,rfl,Nat.le_refl _,λ_ _ _=>rfl,λ_ _ _ _=>rfl,λ_ _ _=>rfl,λ_ _ v h=>⟨v,h⟩⟩
theorem Wr.below{L:List (Nat×Nat×Nat)}{a b c:World}(h:Wr L a b)(k:bW b c):Wr L a c :=
 ⟨k.os.trans h.os,k.tape.trans h.tape,k.output.trans h.output,lT h.size k.size,λx hx hn=>(k.block x (lL hx h.size)).trans (h.block x hx hn),
  λx o hx hn=>(k.cell (p:=(E x o)) (lL hx h.size)).trans (h.cell x o hx hn),λx o hx=>(k.frozen (p:=(E x o)) (lL hx h.size)).trans (h.frozen x o hx),
  λx o v hv=>by obtain⟨u,hu⟩:=h.there x o v hv;exact⟨u,(k.cell (p:=(E x o)) (block_lt_of_cell hu)).trans hu⟩⟩
theorem Wr.trans{L M:List (Nat×Nat×Nat)}{a b c:World}(h:Wr L a b)(k:Wr M b c):Wr (L++M) a c :=
 ⟨k.os.trans h.os,k.tape.trans h.tape,k.output.trans h.output,lT h.size k.size,
  λx hx hn=>(k.block x (lL hx h.size) (λo c hm=>hn o c (List.mem_append_right _ hm))).trans (h.block x hx (λo c hm=>hn o c (List.mem_append_left _ hm))),
  λx o hx hn=>(k.cell x o (lL hx h.size) (λc hm=>hn c (List.mem_append_right _ hm))).trans (h.cell x o hx (λc hm=>hn c (List.mem_append_left _ hm))),
  λx o hx=>(k.frozen x o (lL hx h.size)).trans (h.frozen x o hx),
  λx o v hv=>by obtain⟨u,hu⟩:=h.there x o v hv;exact k.there x o u hu⟩
theorem Wr.one(w:World)(b o c:Nat)(v:Value):Wr [(b,o,c)] w (w.setCell (E b o) v):=by
 refine⟨rfl,rfl,rfl,by simp[World.setCell],λx _ hn=>Below.heap_setCell w (E b o) v x (λe=>?_),λx p _ hn=>?_,λx p _=>World.frozen?_setCell _ _ _ _,λx p u hu=>?_⟩
 .exact hn o c (by rw[show x=b from e];simp)
 .refine World.cell?_setCell_other _ _ _ _ (λe=>?_)
  cases e
  exact hn c (by simp)
 by_cases e:((E b o):Addr)=(E x p)
 .cases e
  exact⟨v,World.cell?_setCell_same _ _ _ hu⟩
 exact⟨u,(World.cell?_setCell_other _ _ _ _ e).trans hu⟩
theorem Wr.set{L:List (Nat×Nat×Nat)}{a w:World}(h:Wr L a w)(b o c:Nat)(v:Value):Wr (L++[(b,o,c)]) a (w.setCell (E b o) v):=h.trans (Wr.one w b o c v)
theorem Wr.bel{L:List (Nat×Nat×Nat)}{w w':World}{B:Nat}(h:Wr L w w')(hB:B<=w.heap.size)(hl:∀p∈L,B<=p.1):Below B w w' :=
 ⟨h.os,h.tape,h.output,h.size,λk hk=>h.block k (by omega) (λo c hm=>by have:=hl _ hm;simp at this;omega)⟩
def Mk(w:World)(L:List (Nat×Nat×Nat))(k:Nat):Prop:=∀j b o c,L[j]?=some (b,o,c)->w.cell? (E b o)=some (mvK c (k+j))
theorem Mk.nil(w:World)(k:Nat):Mk w [] k:=λj b o c h=>by cases h
theorem Mk.below{w w':World}{L:List (Nat×Nat×Nat)}{k:Nat}(h:Mk w L k)(hb:bW w w'):Mk w' L k:=λj b o c hj=>(hb.cell (p:=(E b o)) (block_lt_of_cell (h j b o c hj))).trans (h j b o c hj)
theorem Mk.wr{w w':World}{L M:List (Nat×Nat×Nat)}{k:Nat}(h:Mk w L k)(hw:Wr M w w')(hd:∀b o c c',(b,o,c)∈L->(b,o,c')∉M):Mk w' L k:=λj b o c hj =>
 (hw.cell b o (block_lt_of_cell (h j b o c hj)) (λc'=>hd b o c c' (List.mem_of_getElem? hj))).trans (h j b o c hj)
theorem Mk.app{w:World}{L M:List (Nat×Nat×Nat)}{k:Nat}(h:Mk w L k)(h2:Mk w M (k+L.length)):Mk w (L++M) k:=by
 intro j b o c hj;by_cases hlt:j<L.length
 .rw[List.getElem?_append_left hlt]at hj
  exact h j b o c hj
 rw[List.getElem?_append_right (by omega)]at hj;have:=h2 _ b o c hj
 rwa [show k+L.length+(j-L.length)=k+j by omega]at this
theorem Mk.left{w:World}{L M:List (Nat×Nat×Nat)}{k:Nat}(h:Mk w (L++M) k):Mk w L k:=λj b o c hj=>h j b o c (by rw[List.getElem?_append_left (Af hj)];exact hj)
theorem Mk.right{w:World}{L M:List (Nat×Nat×Nat)}{k:Nat}(h:Mk w (L++M) k):Mk w M (k+L.length):=λj b o c hj=>by
 have:=h (L.length+j) b o c (by rw[List.getElem?_append_right (by omega),Nat.add_sub_cancel_left];exact hj)
 rwa [<-Nat.add_assoc]at this
theorem Mk.one{w:World}{b o c k:Nat}(h:w.cell? (E b o)=some (mvK c k)):Mk w [(b,o,c)] k:=λj b' o' c' hj=>by
 cases j with
 |zero=>cases hj;exact h
 |succ j=>simp at hj
theorem Mk.hd{w:World}{b o c k:Nat}{L:List (Nat×Nat×Nat)}(h:Mk w ((b,o,c)::L) k):w.cell? (E b o)=some (mvK c k):=h 0 b o c rfl
theorem Mk.tl{w:World}{p:Nat×Nat×Nat}{k:Nat}{L:List (Nat×Nat×Nat)}(h:Mk w (p::L) k):Mk w L (k+1):=λj b o c hj=>by
 have:=h (j+1) b o c hj
 rwa [show k+(j+1)=k+1+j by omega]at this
theorem Mk.set{w:World}{L:List (Nat×Nat×Nat)}{k b o c:Nat}{u v:Value}(h:Mk w L k)(hn:∀c',(b,o,c')∉L)(hc:w.cell? (E b o)=some u)(hv:v=mvK c (k+L.length)):Mk (w.setCell (E b o) v) (L++[(b,o,c)]) k:=by
 subst hv;refine Mk.app (h.wr (Wr.one w b o c _) (λb' o' c' c2 hm hm2=>?_)) (Mk.one (World.cell?_setCell_same _ _ _ hc));simp at hm2;obtain⟨rfl,rfl,rfl⟩:=hm2;exact hn _ hm
def LS(a:OA)(n:Nat):List (Nat×Nat×Nat):=match a with
 |some ad=>(List.range n).map (λt=>(ad.block,ad.off+t,0))
 |none=>[]
theorem Nt(a:OA):LS a 0=[]:=by cases a<;>rfl
theorem mX(b o n:Nat):LS (O b o) (n+1)=LS (O b o) n++[(b,o+n,0)]:=by
 show List.map _ _=List.map _ _++_
 rw[List.range_succ,List.map_append];rfl
theorem kA(b o n:Nat):(LS (O b o) n).length=n:=by show(List.map _ _).length=n;simp
theorem rC{b o n x p c:Nat}(h:(x,p,c)∈LS (O b o) n):x=b/\o<=p/\p<o+n:=by
 have h:(x,p,c)∈List.map (λt=>(b,o+t,0)) (List.range n):=h;simp at h;obtain⟨t,ht,rfl,rfl,rfl⟩:=h;omega
def EnW(w:World)(b o n:Nat):Prop:=(∀t,t<n->∃u,w.cell? (E b (o+t))=some u)/\∀p,w.frozen? (E b p)=false
theorem EnW.wr{w w':World}{L:List (Nat×Nat×Nat)}{b o n:Nat}(h:EnW w b o n)(hw:Wr L w w')(hb:b<w.heap.size):EnW w' b o n :=
 ⟨λt ht=>by obtain⟨u,hu⟩:=h.1 t ht;exact hw.there b _ u hu,λp=>(hw.frozen b p hb).trans (h.2 p)⟩
def BZ:Value->Bool
 |.slice _ _ _=>true
 |_=>false
structure Mkd (lo:Nat) (wx ws w:World):Prop where
 bel:Below lo ws w
 up:∀b o,wx.heap.size<=b->b<ws.heap.size->w.cell? (E b o)=ws.cell? (E b o)/\w.frozen? (E b o)=ws.frozen? (E b o)
 sl:∀b o v,wx.cell? (E b o)=some v->BZ v=true->w.cell? (E b o)=some v
 so:∀b o v,wx.cell? (E b o)=some v->∃u,w.cell? (E b o)=some u
 fz:∀b o,b<wx.heap.size->w.frozen? (E b o)=wx.frozen? (E b o)
 sz:wx.heap.size<=w.heap.size
 lo_:lo<=wx.heap.size
theorem Mkd.start{lo:Nat}{wx ws:World}(h:bW wx ws)(hl:lo<=wx.heap.size):Mkd lo wx ws ws where
 bel:=Below.refl _ _
 up:=λ_ _ _ _=>⟨rfl,rfl⟩
 sl:=λb o _ hv _=>(h.cell (p:=(E b o)) (block_lt_of_cell hv)).trans hv
 so:=λb o v hv=>⟨v,(h.cell (p:=(E b o)) (block_lt_of_cell hv)).trans hv⟩
 fz:=λb o hb=>h.frozen (p:=(E b o)) hb
 sz:=h.size
 lo_:=hl
theorem Mkd.below{lo:Nat}{wx ws w w':World}(m:Mkd lo wx ws w)(h:bW w w'):Mkd lo wx ws w' where
 bel:=m.bel.trans (h.mono (lT m.lo_ m.sz))
 up:=λb o h1 h2=>by
  have hb:b<w.heap.size:=lL h2 m.bel.size;exact⟨(h.cell (p:=(E b o)) hb).trans (m.up b o h1 h2).1,(h.frozen (p:=(E b o)) hb).trans (m.up b o h1 h2).2⟩
 sl:=λb o v hv hs=>(h.cell (p:=(E b o)) (block_lt_of_cell (m.sl b o v hv hs))).trans (m.sl b o v hv hs)
 so:=λb o v hv=>by
  obtain⟨u,hu⟩:=m.so b o v hv;exact⟨u,(h.cell (p:=(E b o)) (block_lt_of_cell hu)).trans hu⟩
 fz:=λb o hb=>(h.frozen (p:=(E b o)) (lL hb m.sz)).trans (m.fz b o hb)
 sz:=lT m.sz h.size
 lo_:=m.lo_
theorem Mkd.set{lo:Nat}{wx ws w:World}(m:Mkd lo wx ws w){b o:Nat}{v0:Value}(hl:lo<=b)(hx:wx.cell? (E b o)=some v0)(hs:BZ v0=false)(v:Value):Mkd lo wx ws (w.setCell (E b o) v) where
 bel:=m.bel.setCell hl v
 up:=λb' o' h1 h2=>by
  have hb:=block_lt_of_cell hx;have hne:b'≠b:=by
   have:b<wx.heap.size:=hb;omega
  refine⟨(World.cell?_of_block (w:=w) (a:=(E b' o')) (Below.heap_setCell w (E b o) v b' hne)).trans (m.up b' o' h1 h2).1,?_⟩;rw[World.frozen?_setCell];exact(m.up b' o' h1 h2).2
 sl:=λb' o' u hu hu2=>by
  by_cases e:((E b o):Addr)=(E b' o')
  .cases e
   rw[hx]at hu;cases hu
   rw[hs]at hu2;cases hu2
  exact(World.cell?_setCell_other _ _ _ _ e).trans (m.sl b' o' u hu hu2)
 so:=λb' o' u hu=>by
  obtain⟨u',hu'⟩:=m.so b' o' u hu;by_cases e:((E b o):Addr)=(E b' o')
  .cases e
   exact⟨v,World.cell?_setCell_same _ _ _ hu'⟩
  exact⟨u',(World.cell?_setCell_other _ _ _ _ e).trans hu'⟩
 fz:=λb' o' hb=>by
  rw[World.frozen?_setCell];exact m.fz b' o' hb
 sz:=lT m.sz (by simp[World.setCell])
 lo_:=m.lo_
theorem Mkd.rebase{lo:Nat}{wx ws w:World}(m:Mkd lo wx ws w):Mkd lo wx w w where
 bel:=Below.refl _ _
 up:=λ_ _ _ _=>⟨rfl,rfl⟩
 sl:=m.sl
 so:=m.so
 fz:=m.fz
 sz:=m.sz
 lo_:=m.lo_
theorem Mkd.trans{lo:Nat}{wx ws w w':World}(m:Mkd lo wx ws w)(k:Mkd lo wx w w'):Mkd lo wx ws w' where
 bel:=m.bel.trans k.bel
 up:=λb o h1 h2=>by
  have hb:b<w.heap.size:=lL h2 m.bel.size;exact⟨(k.up b o h1 hb).1.trans (m.up b o h1 h2).1,(k.up b o h1 hb).2.trans (m.up b o h1 h2).2⟩
 sl:=k.sl
 so:=k.so
 fz:=k.fz
 sz:=k.sz
 lo_:=k.lo_
theorem Ee(z:Int)(w:World)(h0:0<z)(h1:z<=1073741824) :
  Calls prog 35 #[X z] w λe w'=>∃s,e=.returned (Y s)/\bW w w':=by
 obtain⟨k,rfl⟩:∃k:Nat,z=k:=⟨z.toNat,by omega⟩;exact(Ao k w (by omega) (by omega)).mono λ_ _ h=>⟨_,h⟩
theorem bN(xs:List BA)(a:OA)(cap lo:Nat)(z:Int)(wx ws w:World)(hin:sX lo wx a xs)(hlo:0<lo)(hm:Mkd lo wx ws w)(h0:0<z)(h1:z+xs.length<=1073741824) :
  Calls prog 36 #[.slice a xs.length cap,X z] w λe w'=>e=.returned (X (z+xs.length))/\Mkd lo wx ws w':=by
 have HI:=iH hin;have HM:=iH hm;clear hin hm;go_enter func36,ntmps36
 go_wp2
 go_loopw [1,5] (λv i wr=>∃j:Nat,j<=xs.length/\i=X j/\v=X (z+j)/\Hid (Mkd lo wx ws wr)) (λ_ i _=>xs.length-(intOf i).toNat)
 case atStart=>exact⟨0,zL,rfl,by simp,HM⟩
 clear HM;obtain⟨j,hj,rfl,rfl,hM⟩:=hrel;by_cases hlt:j<xs.length
 .obtain⟨x,hx⟩:=gXe hlt
  obtain⟨b,o,rfl,hb,hbl,hc⟩:=HI.out.at hx;obtain⟨r0,_⟩:=hc;simp only[Nat.mul_one,Nat.add_zero]at r0;have HR:=iH r0;have hne:xs≠[]:=λe=>by rw[e]at hlt;exact absurd hlt (Nat.not_lt_zero _)
  have i0:(0:Int)<=(j:Int):=by omega
  have i1:(j:Int)<(xs.length:Int):=by omega
  clear hx r0;go_wp2_with fail;refine(Ee _ _ (by omega) (by omega)).mono ?_;rintro e w1⟨s,rfl,hb1⟩;have M1:=iH (hM.out.below hb1);obtain⟨u0,c0⟩:=M1.out.so b (o+j) _ HR;have f0:=(M1.out.fz b (o+j) hbl).trans (HI.out.frz hne hlo (o+j));have M2:=iH (M1.out.set hb HR rfl (Y s));clear hb1 M1 hne
  go_wp2
  go_roundw
  case rel=>exact⟨j+1,by omega,by go_num,by go_num,M2⟩
  simp[intOf];omega
 have hje:j=xs.length:=by omega
 subst hje
 go_wp2
 go_ret;exact⟨rfl,hM.out⟩
def MarkedS(w:World)(a:OA)(n k:Nat):Prop:=n=0\/∃b o,a=(O b o)/\∀j,j<n->w.cell? (E b (o+j))=some (Y (Bp (k+j)))
theorem MarkedS.below{w w':World}{a:OA}{n k:Nat}(h:MarkedS w a n k)(hb:bW w w'):MarkedS w' a n k:=by
 rcases h with h|⟨b,o,e,h⟩
 .exact .inl h
 exact .inr ⟨b,o,e,λj hj=>(hb.cell (p:=(E b (o+j))) (block_lt_of_cell (h j hj))).trans (h j hj)⟩
theorem aI(a:OA)(n cap k:Nat)(w:World)(hin:MarkedS w a n k)(h0:0<k)(h1:k+n<=1073741824) :
  Calls prog 40 #[.slice a n cap,X k] w (Rt (X ((k+n:Nat):Int)) w):=by
 have HI:=iH hin;clear hin;go_enter func40,ntmps40
 go_wp2
 go_loopw [1,5] (λv i wr=>∃j:Nat,j<=n/\i=X j/\v=X ((k+j:Nat):Int)/\Hid (bW w wr)) (λ_ i _=>n-(intOf i).toNat)
 case atStart=>exact⟨0,zL,rfl,rfl,Below.refl _ _⟩
 obtain⟨j,hj,rfl,rfl,hB⟩:=hrel;by_cases hlt:j<n
 .have hM:=HI.out.below hB.out
  obtain⟨b,o,rfl,hc⟩:∃b o,a=(O b o)/\∀j,j<n->wr.cell? (E b (o+j))=some (Y (Bp (k+j))):=by
   rcases hM with h|h
   .omega
   exact h
  have r0:=hc j hlt;have HR:=iH r0;have i0:(0:Int)<=(j:Int):=by omega
  have i1:(j:Int)<(n:Int):=by omega
  have hbl:b<wr.heap.size:=block_lt_of_cell r0;clear hc hM;go_upto_region 4 with fail;refine wp_region_held_drew (S:=λwy=>wy.cell? (E b (o+j))=some (Y (Bp (k+j)))) (by kernel_rfl) (by simpa using r0) (λhS=>?_);refine ty 0 ⟨some 12,_,_,_,_,none⟩ (sP b o n cap) ?_ ?_
  .intro wy hy
   skip;go_simp
  refine ty 1 ⟨some 13,_,_,_,_,none⟩ (X (j:Int)) ?_ ?_
  .intro wy hy
   skip;go_simp
  refine ty 2 ⟨some 14,_,_,_,_,none⟩ (pP b (o+j)) ?_ ?_
  .intro wy hy
   skip;go_simp
  refine ty 3 ⟨some 15,_,_,_,_,none⟩ (Y (Bp (k+j))) ?_ ?_
  .intro wy hy
   skip;go_simp
  refine ty 4 ⟨some 16,_,_,_,_,none⟩ (X ((k+j:Nat):Int)) ?_ ?_
  .intro wy hy
   skip;go_simp
  refine rd1 5 ⟨some 17,_,_,_,_,none⟩ rfl (λK hK=>?_);go_simp;refine(Ao (k+j) _ (by omega) (by omega)).mono ?_;rintro e w1⟨rfl,hb1⟩;have hd:bW wr w1:=(Below.refl _ wr).drew.trans hb1;have HB1:=qTH hB hd;refine hK.out _ _ ((hd.cell (p:=(E b (o+j))) hbl).trans HR) (λhS=>?_);clear hK K hb1 hd;refine ty 6 ⟨some 18,_,_,_,_,none⟩ (.bool false) ?_ ?_
  .intro wy hy
   skip;go_simp
  refine td ?_;clear hS
  go_wp2
  go_roundw
  case rel=>exact⟨j+1,by omega,by go_num,by go_num,HB1⟩
  simp[intOf];omega
 have hje:j=n:=by omega
 subst hje
 go_wp2
 go_ret;exact⟨rfl,hB.out⟩
theorem Aq{T T1:Nat}(h:T1=T+1):(T:Int)+1=((T1:Nat):Int):=by omega
theorem cQ(b o n cap k:Nat)(w:World)(hE:EnW w b o (n))(hb0:b<w.heap.size)(h0:0<k)(h1:k+n<=1073741824) :
  Calls prog 36 #[sP b o n cap,X k] w λe w'=>e=.returned (X ((k+n:Nat):Int))/\Wr (LS (O b o) n) w w'/\Mk w' (LS (O b o) n) k:=by
 replace hE:=iH hE;have hbl:=hb0;go_enter func36,ntmps36
 go_wp2
 go_loopw [1,5] (λv i wr=>∃j:Nat,j<=n/\i=X j/\v=X ((k+j:Nat):Int)/\Hid (Wr (LS (O b o) j) w wr)/\Hid (Mk wr (LS (O b o) j) k)) (λ_ i _=>n-(intOf i).toNat)
 case atStart=>exact⟨0,zL,rfl,by simp,by rw[Nt];exact Wr.refl _,by rw[Nt];exact Mk.nil _ _⟩
 obtain⟨j,hj,rfl,rfl,hW,hM⟩:=hrel;by_cases hlt:j<n
 .have i0:(0:Int)<=(j:Int):=by omega
  have i1:(j:Int)<(n:Int):=by omega
  obtain⟨T0,hT0⟩:∃T:Nat,T=k+j:=⟨_,rfl⟩;rw[<-hT0];have hTb:0<T0/\T0+1<=1073741824:=by omega
  have HT0:=iH hT0;clear hT0;go_wp2_with fail;refine(Ao T0 _ (by omega) (by omega)).mono ?_;rintro e wa0⟨rfl,hb⟩;replace hW:=iH (hW.out.below hb);replace hM:=iH (hM.out.below hb);clear hb;obtain⟨u0,d0⟩:∃u,wa0.cell? (E b (o+j))=some u:=(hE.out.wr hW.out hbl).1 (j) (by omega);have g0:wa0.frozen? (E b (o+j))=false:=(hE.out.wr hW.out hbl).2 _;have hM0:Mk (wa0.setCell (E b (o+j)) (Y (Bp T0))) (LS (O b o) j++[(b,o+j,0)]) k:=hM.out.set (λc' hm=>by have:=rC hm;omega) d0 (by rw[kA];show _=mvK 0 _;rw[<-HT0.out];rfl);have hW0:=iH (hW.out.set b (o+j) 0 (Y (Bp T0)));have HMf:Hid (Mk (wa0.setCell (E b (o+j)) (Y (Bp T0))) (LS (O b o) (j+1)) k):=by have h:=hM0;show Mk _ _ _;rw[mX];exact h
  have HWf:Hid (Wr (LS (O b o) (j+1)) w (wa0.setCell (E b (o+j)) (Y (Bp T0)))):=by have h:=hW0.out;show Wr _ _ _;rw[mX];exact h
  clear hM hW hM0 hW0
  go_wp2
  go_roundw
  case rel=>exact⟨j+1,by omega,by go_num,by have e0:=HT0.out;congr 1;omega,HWf,HMf⟩
  simp[intOf];omega
 have hje:j=n:=by omega
 subst hje
 go_wp2
 go_ret;exact⟨rfl,hW.out,hM.out⟩
def LLk(a:OA)(n:Nat):List (Nat×Nat×Nat):=match a with
 |some ad=>(List.range n).flatMap (λt=>[(ad.block,ad.off+t*2,0),(ad.block,ad.off+t*2+1,1)])
 |none=>[]
theorem Ik(a:OA):LLk a 0=[]:=by cases a<;>rfl
theorem Mw(b o n:Nat):LLk (O b o) (n+1)=LLk (O b o) n++[(b,o+n*2,0),(b,o+n*2+1,1)]:=by
 show List.flatMap _ _=List.flatMap _ _++_
 rw[List.range_succ,List.flatMap_append];simp
theorem Gy(b o:Nat):∀n,(LLk (O b o) n).length=n*2
 |0=>rfl
 |n+1=>by
  rw[Mw,List.length_append,Gy b o n];simp only[List.length_cons,List.length_nil];omega
theorem Tn{b o x p c:Nat}:∀{n:Nat},(x,p,c)∈LLk (O b o) n->x=b/\o<=p/\p<o+n*2
 |0,h=>by rw[Ik]at h;cases h
 | n+1,h=>by
  rw[Mw,List.mem_append]at h;rcases h with h|h
  .have:=Tn h
   omega
  simp at h;omega
theorem cF(b o n cap k:Nat)(w:World)(hE:EnW w b o (n*2))(hb0:b<w.heap.size)(h0:0<k)(h1:k+n*2<=1073741824) :
  Calls prog 75 #[sP b o n cap,X k] w λe w'=>e=.returned (X ((k+n*2:Nat):Int))/\Wr (LLk (O b o) n) w w'/\Mk w' (LLk (O b o) n) k:=by
 replace hE:=iH hE;have hbl:=hb0;go_enter func75,ntmps75
 go_wp2
 go_loopw [1,5] (λv i wr=>∃j:Nat,j<=n/\i=X j/\v=X ((k+j*2:Nat):Int)/\Hid (Wr (LLk (O b o) j) w wr)/\Hid (Mk wr (LLk (O b o) j) k)) (λ_ i _=>n-(intOf i).toNat)
 case atStart=>exact⟨0,zL,rfl,by simp,by rw[Ik];exact Wr.refl _,by rw[Ik];exact Mk.nil _ _⟩
 obtain⟨j,hj,rfl,rfl,hW,hM⟩:=hrel;by_cases hlt:j<n
 .have i0:(0:Int)<=(j:Int):=by omega
  have i1:(j:Int)<(n:Int):=by omega
  obtain⟨T0,hT0⟩:∃T:Nat,T=k+j*2:=⟨_,rfl⟩;rw[<-hT0];have hTb:0<T0/\T0+2<=1073741824:=by omega
  have HT0:=iH hT0;clear hT0;go_wp2_with fail;refine(Ao T0 _ (by omega) (by omega)).mono ?_;rintro e wa0⟨rfl,hb⟩;replace hW:=iH (hW.out.below hb);replace hM:=iH (hM.out.below hb);clear hb;obtain⟨u0,d0⟩:∃u,wa0.cell? (E b (o+j*2))=some u:=(hE.out.wr hW.out hbl).1 (j*2) (by omega);have g0:wa0.frozen? (E b (o+j*2))=false:=(hE.out.wr hW.out hbl).2 _;have hM0:Mk (wa0.setCell (E b (o+j*2)) (Y (Bp T0))) (LLk (O b o) j++[(b,o+j*2,0)]) k:=hM.out.set (λc' hm=>by have:=Tn hm;omega) d0 (by rw[Gy];show _=mvK 0 _;rw[<-HT0.out];rfl);have hW0:=iH (hW.out.set b (o+j*2) 0 (Y (Bp T0)));go_upto_region 5 with fail;clear d0 g0 hM hW;have hM:=iH hM0;have hW:=hW0;clear hM0 hW0;generalize wa0.setCell (E b (o+j*2)) (Y (Bp T0))=wb0 at *;go_upto_region 6 with fail;obtain⟨T1,hT1⟩:∃T:Nat,T=T0+1:=⟨_,rfl⟩;rw[Aq hT1];have HT1:=iH hT1;have hTb1:0<T1/\T1+1<=1073741824:=by omega
  clear hT1;obtain⟨u1,d1⟩:∃u,wb0.cell? (E b (o+j*2+1))=some u:=by have h:=(hE.out.wr hW.out hbl).1 (j*2+1) (by omega);rwa [<-Nat.add_assoc]at h
  have g1:wb0.frozen? (E b (o+j*2+1))=false:=(hE.out.wr hW.out hbl).2 _;have hM1:Mk (wb0.setCell (E b (o+j*2+1)) (X ((T1:Nat):Int))) ((LLk (O b o) j++[(b,o+j*2,0)])++[(b,o+j*2+1,1)]) k:=hM.out.set (λc' hm=>by simp only[List.mem_append,List.mem_cons,List.not_mem_nil,or_false]at hm;rcases hm with hm|hm<;>first|(have:=Tn hm;omega)|(simp at hm;done)|(simp at hm;omega)) d1 (by rw[List.length_append,Gy];show _=mvK 1 (k+(j*2+1));rw[show k+(j*2+1)=T1 by have e0:=HT0.out;have e1:=HT1.out;omega];rfl);have hW1:=iH (hW.out.set b (o+j*2+1) 1 (X ((T1:Nat):Int)));have HMf:Hid (Mk (wb0.setCell (E b (o+j*2+1)) (X ((T1:Nat):Int))) (LLk (O b o) (j+1)) k):=by have h:=hM1;show Mk _ _ _;rw[Mw];simpa using h
  have HWf:Hid (Wr (LLk (O b o) (j+1)) w (wb0.setCell (E b (o+j*2+1)) (X ((T1:Nat):Int)))):=by have h:=hW1.out;show Wr _ _ _;rw[Mw];simpa using h
  clear hM hW hM1 hW1
  go_wp2
  go_roundw
  case rel=>exact⟨j+1,by omega,by go_num,by have e0:=HT0.out;have e1:=HT1.out;congr 1;omega,HWf,HMf⟩
  simp[intOf];omega
 have hje:j=n:=by omega
 subst hje
 go_wp2
 go_ret;exact⟨rfl,hW.out,hM.out⟩
def LSv(a:OA)(n:Nat):List (Nat×Nat×Nat):=match a with
 |some ad=>(List.range n).flatMap (λt=>[(ad.block,ad.off+t*2,0),(ad.block,ad.off+t*2+1,1)])
 |none=>[]
theorem Vt(a:OA):LSv a 0=[]:=by cases a<;>rfl
theorem Mh(b o n:Nat):LSv (O b o) (n+1)=LSv (O b o) n++[(b,o+n*2,0),(b,o+n*2+1,1)]:=by
 show List.flatMap _ _=List.flatMap _ _++_
 rw[List.range_succ,List.flatMap_append];simp
theorem Iy(b o:Nat):∀n,(LSv (O b o) n).length=n*2
 |0=>rfl
 |n+1=>by
  rw[Mh,List.length_append,Iy b o n];simp only[List.length_cons,List.length_nil];omega
theorem Tt{b o x p c:Nat}:∀{n:Nat},(x,p,c)∈LSv (O b o) n->x=b/\o<=p/\p<o+n*2
 |0,h=>by rw[Vt]at h;cases h
 | n+1,h=>by
  rw[Mh,List.mem_append]at h;rcases h with h|h
  .have:=Tt h
   omega
  simp at h;omega
theorem dG(b o n cap k:Nat)(w:World)(hE:EnW w b o (n*2))(hb0:b<w.heap.size)(h0:0<k)(h1:k+n*2<=1073741824) :
  Calls prog 33 #[sP b o n cap,X k] w λe w'=>e=.returned (X ((k+n*2:Nat):Int))/\Wr (LSv (O b o) n) w w'/\Mk w' (LSv (O b o) n) k:=by
 replace hE:=iH hE;have hbl:=hb0;go_enter func33,ntmps33
 go_wp2
 go_loopw [1,5] (λv i wr=>∃j:Nat,j<=n/\i=X j/\v=X ((k+j*2:Nat):Int)/\Hid (Wr (LSv (O b o) j) w wr)/\Hid (Mk wr (LSv (O b o) j) k)) (λ_ i _=>n-(intOf i).toNat)
 case atStart=>exact⟨0,zL,rfl,by simp,by rw[Vt];exact Wr.refl _,by rw[Vt];exact Mk.nil _ _⟩
 obtain⟨j,hj,rfl,rfl,hW,hM⟩:=hrel;by_cases hlt:j<n
 .have i0:(0:Int)<=(j:Int):=by omega
  have i1:(j:Int)<(n:Int):=by omega
  obtain⟨T0,hT0⟩:∃T:Nat,T=k+j*2:=⟨_,rfl⟩;rw[<-hT0];have hTb:0<T0/\T0+2<=1073741824:=by omega
  have HT0:=iH hT0;clear hT0;go_wp2_with fail;refine(Ao T0 _ (by omega) (by omega)).mono ?_;rintro e wa0⟨rfl,hb⟩;replace hW:=iH (hW.out.below hb);replace hM:=iH (hM.out.below hb);clear hb;obtain⟨u0,d0⟩:∃u,wa0.cell? (E b (o+j*2))=some u:=(hE.out.wr hW.out hbl).1 (j*2) (by omega);have g0:wa0.frozen? (E b (o+j*2))=false:=(hE.out.wr hW.out hbl).2 _;have hM0:Mk (wa0.setCell (E b (o+j*2)) (Y (Bp T0))) (LSv (O b o) j++[(b,o+j*2,0)]) k:=hM.out.set (λc' hm=>by have:=Tt hm;omega) d0 (by rw[Iy];show _=mvK 0 _;rw[<-HT0.out];rfl);have hW0:=iH (hW.out.set b (o+j*2) 0 (Y (Bp T0)));go_upto_region 5 with fail;clear d0 g0 hM hW;have hM:=iH hM0;have hW:=hW0;clear hM0 hW0;generalize wa0.setCell (E b (o+j*2)) (Y (Bp T0))=wb0 at *;go_upto_region 6 with fail;obtain⟨T1,hT1⟩:∃T:Nat,T=T0+1:=⟨_,rfl⟩;rw[Aq hT1];have HT1:=iH hT1;have hTb1:0<T1/\T1+1<=1073741824:=by omega
  clear hT1;obtain⟨u1,d1⟩:∃u,wb0.cell? (E b (o+j*2+1))=some u:=by have h:=(hE.out.wr hW.out hbl).1 (j*2+1) (by omega);rwa [<-Nat.add_assoc]at h
  have g1:wb0.frozen? (E b (o+j*2+1))=false:=(hE.out.wr hW.out hbl).2 _;have hM1:Mk (wb0.setCell (E b (o+j*2+1)) (X ((T1:Nat):Int))) ((LSv (O b o) j++[(b,o+j*2,0)])++[(b,o+j*2+1,1)]) k:=hM.out.set (λc' hm=>by simp only[List.mem_append,List.mem_cons,List.not_mem_nil,or_false]at hm;rcases hm with hm|hm<;>first|(have:=Tt hm;omega)|(simp at hm;done)|(simp at hm;omega)) d1 (by rw[List.length_append,Iy];show _=mvK 1 (k+(j*2+1));rw[show k+(j*2+1)=T1 by have e0:=HT0.out;have e1:=HT1.out;omega];rfl);have hW1:=iH (hW.out.set b (o+j*2+1) 1 (X ((T1:Nat):Int)));have HMf:Hid (Mk (wb0.setCell (E b (o+j*2+1)) (X ((T1:Nat):Int))) (LSv (O b o) (j+1)) k):=by have h:=hM1;show Mk _ _ _;rw[Mh];simpa using h
  have HWf:Hid (Wr (LSv (O b o) (j+1)) w (wb0.setCell (E b (o+j*2+1)) (X ((T1:Nat):Int)))):=by have h:=hW1.out;show Wr _ _ _;rw[Mh];simpa using h
  clear hM hW hM1 hW1
  go_wp2
  go_roundw
  case rel=>exact⟨j+1,by omega,by go_num,by have e0:=HT0.out;have e1:=HT1.out;congr 1;omega,HWf,HMf⟩
  simp[intOf];omega
 have hje:j=n:=by omega
 subst hje
 go_wp2
 go_ret;exact⟨rfl,hW.out,hM.out⟩
theorem CD{b o n j:Nat}(h:j<n):(LS (O b o) n)[j]?=some (b,o+j,0):=by
 show(List.map _ (List.range n))[j]?=_
 rw[List.getElem?_map,List.getElem?_range h];rfl
theorem cX(b o n cap k:Nat)(w:World)(hM:Mk w (LS (O b o) n) k)(h0:0<k)(h1:k+n<=1073741824) :
  Calls prog 40 #[sP b o n cap,X k] w λe w'=>e=.returned (X ((k+n:Nat):Int))/\bW w w' :=
 aI (O b o) n cap k w (.inr ⟨b,o,rfl,λj hj=>hM j b (o+j) 0 (CD hj)⟩) h0 h1
theorem rP{b o:Nat}:∀{n j:Nat},j<n->(LLk (O b o) n)[j*2+0]?=some (b,o+j*2,0)/\(LLk (O b o) n)[j*2+1]?=some (b,o+j*2+1,1)
 |0,_,h=>absurd h (Nat.not_lt_zero _)
 | n+1,j,h=>by
  rw[Mw];by_cases e:j=n
  .subst e
   refine⟨by rw[List.getElem?_append_right (by rw[Gy];omega),Gy,Nat.add_sub_cancel_left];rfl,by rw[List.getElem?_append_right (by rw[Gy];omega),Gy,Nat.add_sub_cancel_left];rfl⟩
  have hj:j<n:=by omega
  have hl:=Gy b o n;obtain⟨p0,p1⟩:=rP (b:=b) (o:=o) hj;refine⟨by rw[List.getElem?_append_left (by omega)];exact p0,by rw[List.getElem?_append_left (by omega)];exact p1⟩
theorem bK(b o n cap k:Nat)(w:World)(hM:Mk w (LLk (O b o) n) k)(h0:0<k)(h1:k+n*2<=1073741824) :
  Calls prog 76 #[sP b o n cap,X k] w (Rt (X ((k+n*2:Nat):Int)) w):=by
 have HM:=iH hM;clear hM;go_enter func76,ntmps76
 go_wp2
 go_loopw [1,5] (λv i wr=>∃j:Nat,j<=n/\i=X j/\v=X ((k+j*2:Nat):Int)/\Hid (bW w wr)) (λ_ i _=>n-(intOf i).toNat)
 case atStart=>exact⟨0,zL,rfl,by simp,Below.refl _ _⟩
 obtain⟨j,hj,rfl,rfl,hB⟩:=hrel;by_cases hlt:j<n
 .have i0:(0:Int)<=(j:Int):=by omega
  have i1:(j:Int)<(n:Int):=by omega
  obtain⟨p0,p1⟩:=rP (b:=b) (o:=o) hlt;have C0:=iH ((hB.out.cell (p:=(E b (o+j*2))) (block_lt_of_cell (HM _ b _ _ p0))).trans (HM _ b _ _ p0));have C1:=iH ((hB.out.cell (p:=(E b (o+j*2+1))) (block_lt_of_cell (HM _ b _ _ p1))).trans (HM _ b _ _ p1));clear p0 p1;obtain⟨T0,hT0⟩:∃T:Nat,T=k+j*2:=⟨_,rfl⟩;rw[<-hT0];have hTb:0<T0/\T0+2<=1073741824:=by omega
  have D0:Hid (wr.cell? (E b (o+j*2))=some (mvK 0 (T0+0))):=by show _=_;rw[C0.out];show some (mvK 0 (k+(j*2+0)))=_;rw[show k+(j*2+0)=T0+0 by omega]
  have D1:Hid (wr.cell? (E b (o+j*2+1))=some (mvK 1 (T0+1))):=by show _=_;rw[C1.out];show some (mvK 1 (k+(j*2+1)))=_;rw[show k+(j*2+1)=T0+1 by omega]
  have HT0:=iH hT0;clear hT0 C0 C1;have c0:wr.cell? (E b (o+j*2))=some (mvK 0 T0):=by have h:=D0.out;rwa [show T0+0=T0 by rfl]at h
  go_upto_region 4 with fail;refine wp_region_held_drew (S:=λwy=>wy.cell? (E b (o+j*2))=some (Y (Bp T0))) (by kernel_rfl) c0 (λhS=>?_);refine tz 0 12 (sP b o n cap) ?_;refine tz 1 13 (X (j:Int)) ?_;refine ty 2 ⟨some 14,_,_,_,_,none⟩ (pP b (o+j*2)) ?_ ?_
  .intro wy hy
   clear hy
   first|(go_simp;done)|(go_simp;intro hh;omega)|(go_simp;omega)
  refine tz 3 15 (pP b (o+j*2)) ?_;refine ty 4 ⟨some 16,_,_,_,_,none⟩ (Y (Bp T0)) ?_ ?_
  .intro wy hy
   have h9:=hy;clear hy;go_simp
  refine tz 5 17 (X ((T0:Nat):Int)) ?_;refine rd1 6 ⟨some 18,_,_,_,_,none⟩ rfl (λK hK=>?_);go_simp;refine(Ao T0 _ (by omega) (by omega)).mono ?_;rintro e wa0⟨rfl,hb1⟩;have hd:bW wr wa0:=(Below.refl _ wr).drew.trans hb1;replace hB:=qTH hB hd;replace D1:=iH ((hd.cell (p:=(E b (o+j*2+1))) (block_lt_of_cell D1)).trans D1);refine hK.out _ _ ((hd.cell (p:=(E b (o+j*2))) (block_lt_of_cell c0)).trans c0) (λhS=>?_);clear hK K hb1 hd c0 D0;refine tz 7 19 (.bool false) ?_;refine td ?_;clear hS;go_upto_region 7 with fail;obtain⟨T1,hT1⟩:∃T:Nat,T=T0+1:=⟨_,rfl⟩;rw[Aq hT1];have HT1:=iH hT1;have hTb1:0<T1/\T1+1<=1073741824:=by omega
  clear hT1;have c1:wa0.cell? (E b (o+j*2+1))=some (mvK 1 T1):=by have h:=D1.out;rwa [show T0+1=T1 by have e1:=HT1.out;omega]at h
  replace c1:wa0.cell? (E b (o+j*2+1))=some (X ((T1:Nat):Int)):=c1
  go_wp2
  go_roundw
  case rel=>exact⟨j+1,by omega,by go_num,by have e0:=HT0.out;have e1:=HT1.out;congr 1;omega,hB⟩
  simp[intOf];omega
 have hje:j=n:=by omega
 subst hje
 go_wp2
 go_ret;exact⟨rfl,hB.out⟩
theorem uJ{b o:Nat}:∀{n j:Nat},j<n->(LSv (O b o) n)[j*2+0]?=some (b,o+j*2,0)/\(LSv (O b o) n)[j*2+1]?=some (b,o+j*2+1,1)
 |0,_,h=>absurd h (Nat.not_lt_zero _)
 | n+1,j,h=>by
  rw[Mh];by_cases e:j=n
  .subst e
   refine⟨by rw[List.getElem?_append_right (by rw[Iy];omega),Iy,Nat.add_sub_cancel_left];rfl,by rw[List.getElem?_append_right (by rw[Iy];omega),Iy,Nat.add_sub_cancel_left];rfl⟩
  have hj:j<n:=by omega
  have hl:=Iy b o n;obtain⟨p0,p1⟩:=uJ (b:=b) (o:=o) hj;refine⟨by rw[List.getElem?_append_left (by omega)];exact p0,by rw[List.getElem?_append_left (by omega)];exact p1⟩
theorem bA(b o n cap k:Nat)(w:World)(hM:Mk w (LSv (O b o) n) k)(h0:0<k)(h1:k+n*2<=1073741824) :
  Calls prog 38 #[sP b o n cap,X k] w (Rt (X ((k+n*2:Nat):Int)) w):=by
 have HM:=iH hM;clear hM;go_enter func38,ntmps38
 go_wp2
 go_loopw [1,5] (λv i wr=>∃j:Nat,j<=n/\i=X j/\v=X ((k+j*2:Nat):Int)/\Hid (bW w wr)) (λ_ i _=>n-(intOf i).toNat)
 case atStart=>exact⟨0,zL,rfl,by simp,Below.refl _ _⟩
 obtain⟨j,hj,rfl,rfl,hB⟩:=hrel;by_cases hlt:j<n
 .have i0:(0:Int)<=(j:Int):=by omega
  have i1:(j:Int)<(n:Int):=by omega
  obtain⟨p0,p1⟩:=uJ (b:=b) (o:=o) hlt;have C0:=iH ((hB.out.cell (p:=(E b (o+j*2))) (block_lt_of_cell (HM _ b _ _ p0))).trans (HM _ b _ _ p0));have C1:=iH ((hB.out.cell (p:=(E b (o+j*2+1))) (block_lt_of_cell (HM _ b _ _ p1))).trans (HM _ b _ _ p1));clear p0 p1;obtain⟨T0,hT0⟩:∃T:Nat,T=k+j*2:=⟨_,rfl⟩;rw[<-hT0];have hTb:0<T0/\T0+2<=1073741824:=by omega
  have D0:Hid (wr.cell? (E b (o+j*2))=some (mvK 0 (T0+0))):=by show _=_;rw[C0.out];show some (mvK 0 (k+(j*2+0)))=_;rw[show k+(j*2+0)=T0+0 by omega]
  have D1:Hid (wr.cell? (E b (o+j*2+1))=some (mvK 1 (T0+1))):=by show _=_;rw[C1.out];show some (mvK 1 (k+(j*2+1)))=_;rw[show k+(j*2+1)=T0+1 by omega]
  have HT0:=iH hT0;clear hT0 C0 C1;have c0:wr.cell? (E b (o+j*2))=some (mvK 0 T0):=by have h:=D0.out;rwa [show T0+0=T0 by rfl]at h
  go_upto_region 4 with fail;refine wp_region_held_drew (S:=λwy=>wy.cell? (E b (o+j*2))=some (Y (Bp T0))) (by kernel_rfl) c0 (λhS=>?_);refine tz 0 12 (sP b o n cap) ?_;refine tz 1 13 (X (j:Int)) ?_;refine ty 2 ⟨some 14,_,_,_,_,none⟩ (pP b (o+j*2)) ?_ ?_
  .intro wy hy
   clear hy
   first|(go_simp;done)|(go_simp;intro hh;omega)|(go_simp;omega)
  refine tz 3 15 (pP b (o+j*2)) ?_;refine ty 4 ⟨some 16,_,_,_,_,none⟩ (Y (Bp T0)) ?_ ?_
  .intro wy hy
   have h9:=hy;clear hy;go_simp
  refine tz 5 17 (X ((T0:Nat):Int)) ?_;refine rd1 6 ⟨some 18,_,_,_,_,none⟩ rfl (λK hK=>?_);go_simp;refine(Ao T0 _ (by omega) (by omega)).mono ?_;rintro e wa0⟨rfl,hb1⟩;have hd:bW wr wa0:=(Below.refl _ wr).drew.trans hb1;replace hB:=qTH hB hd;replace D1:=iH ((hd.cell (p:=(E b (o+j*2+1))) (block_lt_of_cell D1)).trans D1);refine hK.out _ _ ((hd.cell (p:=(E b (o+j*2))) (block_lt_of_cell c0)).trans c0) (λhS=>?_);clear hK K hb1 hd c0 D0;refine tz 7 19 (.bool false) ?_;refine td ?_;clear hS;go_upto_region 7 with fail;obtain⟨T1,hT1⟩:∃T:Nat,T=T0+1:=⟨_,rfl⟩;rw[Aq hT1];have HT1:=iH hT1;have hTb1:0<T1/\T1+1<=1073741824:=by omega
  clear hT1;have c1:wa0.cell? (E b (o+j*2+1))=some (mvK 1 T1):=by have h:=D1.out;rwa [show T0+1=T1 by have e1:=HT1.out;omega]at h
  replace c1:wa0.cell? (E b (o+j*2+1))=some (X ((T1:Nat):Int)):=c1
  go_wp2
  go_roundw
  case rel=>exact⟨j+1,by omega,by go_num,by have e0:=HT0.out;have e1:=HT1.out;congr 1;omega,hB⟩
  simp[intOf];omega
 have hje:j=n:=by omega
 subst hje
 go_wp2
 go_ret;exact⟨rfl,hB.out⟩
end Go.Proofs.YthboopnmbglkjaaGreat
