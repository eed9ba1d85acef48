import Derived.Test.YthboopnmbglkjaaGreatJ28
set_option maxHeartbeats 8000000
set_option maxRecDepth 100000
namespace Go.Proofs.YthboopnmbglkjaaGreat
open Go.RowKit Tryz
def wtB(x:Flt)(i:Nat):Bool:=match x.copies[i]? with
 |some c=>decide (c.at_=⟨#[]⟩)
 |none=>false
def Iq(x:Flt)(k:Nat):List Nat:=(List.range k).filter (wtB x)
theorem tI{x:Flt}{k:Nat}{c:Cpy}(h:x.copies[k]?=some c)(he:c.at_=⟨#[]⟩):Iq x (k+1)=Iq x k++[k]:=by
 unfold Iq;rw[List.range_succ,List.filter_append];have:wtB x k=true:=by unfold wtB;rw[h];exact decide_eq_true he
 simp[this]
theorem xI{x:Flt}{k:Nat}{c:Cpy}(h:x.copies[k]?=some c)(he:¬c.at_=⟨#[]⟩):Iq x (k+1)=Iq x k:=by
 unfold Iq;rw[List.range_succ,List.filter_append];have:wtB x k=false:=by unfold wtB;rw[h];exact decide_eq_false he
 simp[this]
theorem bE{x:Flt}{k i:Nat}(h:i∈Iq x k):i<k:=List.mem_range.1 (List.mem_filter.1 h).1
theorem Hg(x:Flt)(k:Nat):(Iq x k).length<=k:=by
 have:=List.length_filter_le (wtB x) (List.range k);simpa[Iq]using this
def CC(mz:Nat)(x:Flt)(a3:OA)(c3:Nat)(w:World)(e:Ending)(w':World):Prop:=∃(Bc hb:Nat)(lv:Value)(l:List Nat),e=.returned (pP hb 0)/\HpW mz x a3 c3 w Bc hb lv l w'/\Heap (ltF (cfQ x)) l/\l.Perm (Iq x x.copies.length)
theorem qG(mz:Nat)(x:Flt)(a3:OA)(c3 lo p:Nat)(w:World)(n3:sC lo w a3 x.copies)(p3:w.cell? (E p 3)=some (.slice a3 x.copies.length c3))(hasc:AscN (cpN x))(l3:x.copies.length<=1000000)(hmz:∀o v,w.cell? (E mz o)≠some v) :
  Calls prog 67 #[pP p 0] w λe w'=>CC mz x a3 c3 w e w':=by
 have N3:=iH n3;have HC:=iH (gN mz x a3 c3 lo w w.heap.size n3 hmz);have HO:=iH (ltQ x hasc);have hpl:p<w.heap.size:=block_lt_of_cell p3;have HX1:Hid (HpW mz x a3 c3 w w.heap.size (w.heap.size+1) (.slice none 0 0) [] ((w.alloc (Obj.cells #[.slice a3 x.copies.length c3] 30)).alloc (Obj.cells #[.slice none 0 0,.func (.func 106) #[] #[pP w.heap.size 0]] 157))):=by
  have hb1:=Blk.alloc w #[.slice a3 x.copies.length c3] 30;have hb2:=(Below.refl _ (w.alloc (Obj.cells #[.slice a3 x.copies.length c3] 30))).alloc nL (Obj.cells #[.slice none 0 0,.func (.func 106) #[] #[pP w.heap.size 0]] 157);have hh:Blk (w.heap.size+1) #[.slice none 0 0,.func (.func 106) #[] #[pP w.heap.size 0]] 157 ((w.alloc (Obj.cells #[.slice a3 x.copies.length c3] 30)).alloc (Obj.cells #[.slice none 0 0,.func (.func 106) #[] #[pP w.heap.size 0]] 157)):=by
   have:=Blk.alloc (w.alloc (Obj.cells #[.slice a3 x.copies.length c3] 30)) #[.slice none 0 0,.func (.func 106) #[] #[pP w.heap.size 0]] 157;simpa using this
  refine⟨But.of_below (by go_grown),hb1.below hb2 hb1.lt,hh,World.ownsRow_nil _ _ _ _,(λg e=>by cases e),by omega,by omega,Nat.le_refl _⟩
 have HMZ:=iH hmz;clear n3 hasc hmz;go_enter func67,ntmps67;go_wp2_with fail;generalize(w.alloc (Obj.cells #[.slice a3 x.copies.length c3] 30)).alloc (Obj.cells #[.slice none 0 0,.func (.func 106) #[] #[pP w.heap.size 0]] 157)=w1 at *;generalize hBc:w.heap.size=Bc at *;have HBc:=iH hBc;clear hBc;go_loopw [17] (λi wr=>∃(k:Nat)(lv:Value)(l:List Nat),k<=x.copies.length/\i=X ((k:Nat):Int)/\Hid (HpW mz x a3 c3 w Bc (Bc+1) lv l wr)/\Hid (Heap (ltF (cfQ x)) l)/\Hid (l.Perm (Iq x k))) (λi _=>x.copies.length-(intOf i).toNat)
 case atStart=>exact⟨0,.slice none 0 0,[],zL,rfl,HX1,(λi _ h=>by simp at h),List.Perm.refl _⟩
 clear HX1;obtain⟨k,lv,l,hk,rfl,HW,HH,HP⟩:=hrel;by_cases hlt:k<x.copies.length
 case neg =>
  have HE:Hid (k=x.copies.length):=by show _=_;omega
  have hki:((x.copies.length:Nat):Int)<=((k:Nat):Int):=by omega
  go_wp2
  go_ret;exact⟨Bc,Bc+1,lv,l,rfl,HW,HH,by rw[<-HE.out];exact HP.out⟩
 obtain⟨c,hck⟩:=gXe hlt;obtain⟨cb,co,rfl,_,hcb,hc⟩:=N3.out.at hck;obtain⟨la,lc,hrg⟩:=dE hc;have hcz:cb≠mz:=λe=>HMZ.out _ _ (by rw[<-e];exact hrg 0 _ rfl)
 have HRA:Hid (wr.rangeAt cb (co+k*12) (ccL c la lc)):=λj v hj=>(HW.out.bel.cell (p:=(E cb (co+k*12+j))) hcb hcz).trans (hrg j v hj)
 have HK:=iH hck;clear hck hc hrg;have hkl:(k:Int)<((x.copies.length:Nat):Int):=by omega
 go_upto_region 6 with(first|(refine qLr Hb HRA ?_));have HX4:=iH (Blk.alloc wr (ccA c la lc) 54);have HW4:=iH (HW.out.below (W':=(wr.alloc (Obj.cells (ccA c la lc) 54))) ((Below.refl _ wr).alloc nL _));clear HW HRA;generalize wr.heap.size=gx at *;generalize wr.alloc (Obj.cells (ccA c la lc) 54)=w4 at *;have g11:w4.cell? (E gx 11)=some (Y c.at_):=HX4.out.cell rfl;by_cases he:c.at_=⟨#[]⟩
 case neg =>
  have HE:=iH (xI HK he);have hsz:¬c.at_.size=0:=λe=>he (ByteArray.ext (Array.eq_empty_of_size_eq_zero e))
  have hte:c.at_.toList.isEmpty=false:=by
   rw[ByteArray.toList_eq]
   cases hl:c.at_.data.toList with
   |nil=>exact absurd (by have:=congrArg List.length hl;simpa using this) hsz
   |cons _ _=>rfl
  clear he
  go_wp2
  go_roundw
  case rel=>exact⟨k+1,lv,l,by omega,by go_num,HW4,HH,by rw[HE.out];exact HP.out⟩
  simp[intOf];omega
 have HE:=iH (tI HK he);rw[he]at g11;clear he;go_wp2_with fail
 refine(vY mz x _ c3 w Bc (Bc+1) (List.range x.copies.length) (cfQ x) HO lv l k _ HC HW4 (λb hb=>by
  rcases List.mem_append.1 hb with h|h
  .have:=bE (HP.out.subset h)
   exact List.mem_range.2 (by omega)
  rw[List.mem_singleton.1 h]
  exact List.mem_range.2 hlt) HH (by have h1:=HP.out.length_eq;have h2:=Hg x k;omega)).mono ?_
 rintro e w5⟨lv',l',rfl,hw5,hh5,hp5⟩;have HP5:Hid (l'.Perm (Iq x (k+1))):=by show List.Perm _ _;rw[HE.out];exact hp5.trans (HP.out.append_right _)
 have HW5:=iH hw5;have HH5:=iH hh5;clear hw5 hh5 hp5 HW4 HX4 g11
 go_wp2
 go_roundw
 case rel=>exact⟨k+1,lv',l',by omega,by go_num,HW5,HH5,HP5⟩
 simp[intOf];omega
theorem Rb{x:Flt}(hv:Bb x=true){k:Nat}{c:Cpy}(h:x.copies[k]?=some c):P.nameOk c.name=true:=by
 unfold Bb at hv;simp only[Bool.and_eq_true,Dn,En,Cc,Br,Hr,decide_eq_true_eq]at hv;obtain⟨_,⟨_,h1⟩,_⟩:=hv;exact((Ln _ _).1 h1 k c h).1
theorem CU{w:World}{sb:Nat}{v:Value}(h:w.cell? (E sb 0)=some v):∀j u,[v][j]?=some u->w.cell? (((E sb 0):Addr).add j)=some u:=by
 intro j u hu
 cases j with
 |zero=>simp at hu;subst hu;simpa[Addr.add]using h
 |succ j=>simp at hu
abbrev stV(l:List BA):List Value:=l.map Value.string
theorem vE{w:World}{base:Nat}{v:Value}{l:List BA}(h:w.ownsRow base 9 1 v l.length (stV l))(hz:∀s∈l,s.size<=maxLen)(hm:l.length<=maxLen):∃a c,v=.slice a l.length c/\sX base w a l:=by
 rcases h.2 with⟨hv,h0⟩|⟨g,cap,cur,hv,hb,hg,_⟩
 .have:l=[]:=List.length_eq_zero_iff.1 h0
  subst this;exact⟨none,0,hv,SliceC.nil⟩
 subst hv;exact⟨_,cap,rfl,Ms h hz hm nL⟩
def Ol(lt:Nat->Nat->Bool)(l:List Nat)(a:Nat):List Nat:=l.takeWhile (λb=>lt b a)++a::l.dropWhile (λb=>lt b a)
theorem Rj(lt:Nat->Nat->Bool)(l:List Nat)(a:Nat):(Ol lt l a).Perm (l++[a]):=by
 unfold Ol;have h:(l.takeWhile (λb=>lt b a)++a::l.dropWhile (λb=>lt b a)).Perm (a::(l.takeWhile (λb=>lt b a)++l.dropWhile (λb=>lt b a))):=List.perm_middle;rw[List.takeWhile_append_dropWhile]at h;exact h.trans (List.perm_append_singleton a l).symm
theorem dO{lt:Nat->Nat->Bool}(o:LtO lt)(a:Nat):∀(l:List Nat),l.Pairwise (λx y=>lt y x=false)->∀d∈l.dropWhile (λb=>lt b a),lt d a=false
 |[],_,d,hd=>by cases hd
 | c::r,hp,d,hd=>by
  rw[List.dropWhile_cons]at hd;rw[List.pairwise_cons]at hp;by_cases h:lt c a=true
  .rw[if_pos h]at hd
   exact dO o a r hp.2 d hd
  rw[if_neg h]at hd;have hc:lt c a=false:=by simpa using h
  rcases List.mem_cons.1 hd with rfl|hr
  .exact hc
  exact o.ntr (hp.1 d hr) hc
theorem eL(lt:Nat->Nat->Bool)(a:Nat):∀(l:List Nat),∀d∈l.takeWhile (λb=>lt b a),lt d a=true
 |[],d,hd=>by cases hd
 | c::r,d,hd=>by
  rw[List.takeWhile_cons]at hd;by_cases h:lt c a=true
  .rw[if_pos h]at hd
   rcases List.mem_cons.1 hd with rfl|hr
   .exact h
   exact eL lt a r d hr
  rw[if_neg h]at hd;cases hd
theorem fY{lt:Nat->Nat->Bool}(o:LtO lt){l:List Nat}(h:l.Pairwise (λx y=>lt y x=false))(a:Nat):(Ol lt l a).Pairwise (λx y=>lt y x=false):=by
 unfold Ol;have hs:=h;rw[<-List.takeWhile_append_dropWhile (p:=λb=>lt b a) (l:=l),List.pairwise_append]at hs;rw[List.pairwise_append,List.pairwise_cons];refine⟨hs.1,⟨λd hd=>dO o a l h d hd,hs.2.1⟩,λb hb d hd=>?_⟩;rcases List.mem_cons.1 hd with rfl|hr
 .exact o.asym (eL lt d l b hb)
 exact hs.2.2 b hb d hr
def qTo(x:Flt):Nat->List Nat
 |0=>[]
 |k+1=>if wtB x k=true then Ol (ltF (cfQ x)) (qTo x k) k else qTo x k
theorem Ih(x:Flt):∀k,(qTo x k).Perm (Iq x k)
 |0=>List.Perm.refl _
 | k+1=>by
  have hw:Iq x (k+1)=Iq x k++if wtB x k=true then[k]else []:=by
   unfold Iq;rw[List.range_succ,List.filter_append];by_cases h:wtB x k=true<;>simp[h]
  rw[hw];show(if wtB x k=true then _ else _:List Nat).Perm _
  by_cases h:wtB x k=true
  .rw[if_pos h,if_pos h]
   exact(Rj _ _ _).trans ((Ih x k).append_right _)
  rw[if_neg h,if_neg h,List.append_nil];exact Ih x k
theorem dC{x:Flt}(o:LtO (ltF (cfQ x))):∀k,(qTo x k).Pairwise (λa b=>ltF (cfQ x) b a=false)
 |0=>List.Pairwise.nil
 | k+1=>by
  show(if wtB x k=true then _ else _:List Nat).Pairwise _
  by_cases h:wtB x k=true
  .rw[if_pos h]
   exact fY o (dC o k) k
  rw[if_neg h];exact dC o k
theorem mF{x:Flt}(o:LtO (ltF (cfQ x))){l:List Nat}(h1:l.Perm (Iq x x.copies.length))(h2:l.Pairwise (λa b=>ltF (cfQ x) b a=false)):l=qTo x x.copies.length :=
 lS o (h1.trans (Ih x _).symm) h2 (dC o _)
theorem Sd{x:Flt}{k i:Nat}(h:i∈qTo x k):i<k:=bE ((Ih x k).subset h)
theorem vZ(x:Flt)(k:Nat):(qTo x k).length<=k:=by rw[(Ih x k).length_eq];exact Hg x k
def nmQ(x:Flt)(i:Nat):BA:=match x.copies[i]? with
 |some c=>c.name
 |none=>⟨#[]⟩
theorem Vj{x:Flt}{i:Nat}{c:Cpy}(h:x.copies[i]?=some c):nmQ x i=c.name:=by unfold nmQ;rw[h]
def chF(x:Flt)(c:Nat):Option (Nat×Brt):=match x.copies[c]? with
 |none=>none
 |some y=>chT x c y x.berths.length
def Td(x:Flt):List Nat->Option (Nat×(Nat×Brt))
 |[]=>none
 |c::r=>match chF x c with
  |none=>Td x r
  |some z=>some (c,z)
def Fv(x:Flt):Option (Nat×(Nat×Brt)):=Td x (qTo x x.copies.length)
theorem Ru{x:Flt}:∀{l:List Nat},(∀c∈l,chF x c=none)->Td x l=none
 |[],_=>rfl
 |c::r,h=>by
  rw[Td,h c List.mem_cons_self];exact Ru λd hd=>h d (List.mem_cons_of_mem _ hd)
theorem aH{x:Flt}{c:Nat}{z:Nat×Brt}{r:List Nat}(hz:chF x c=some z):∀{pre:List Nat},(∀d∈pre,chF x d=none)->Td x (pre++c::r)=some (c,z)
 |[],_=>by rw[List.nil_append,Td,hz]
 |d::pre,h=>by
  rw[List.cons_append,Td,h d List.mem_cons_self];exact aH hz λe he=>h e (List.mem_cons_of_mem _ he)
theorem Mo{x:Flt}{c:Nat}{z:Nat×Brt}:∀{l:List Nat},Td x l=some (c,z)->c∈l/\chF x c=some z
 |[],h=>by cases h
 | d::r,h=>by
  rw[Td]at h
  cases hd:chF x d with
  |none =>
   rw[hd]at h;exact⟨List.mem_cons_of_mem _ (Mo h).1,(Mo h).2⟩
  |some z' =>
   rw[hd]at h;cases h
   exact⟨List.mem_cons_self,hd⟩
theorem rH{lt:Nat->Nat->Bool}(o:LtO lt):∀l:List Nat,∃s:List Nat,s.Perm l/\s.Pairwise (λa b=>lt b a=false)
 |[]=>⟨[],List.Perm.refl _,List.Pairwise.nil⟩
 |a::r=>by
  obtain⟨s,h1,h2⟩:=rH o r;exact⟨Ol lt s a,(Rj lt s a).trans ((List.perm_append_singleton a s).trans (h1.cons a)),fY o h2 a⟩
theorem BG{x:Flt}(o:LtO (ltF (cfQ x))){pre l':List Nat}(h1:(pre++l').Perm (Iq x x.copies.length))(h2:pre.Pairwise (λa b=>ltF (cfQ x) b a=false))(h3:∀a∈pre,∀b∈l',ltF (cfQ x) b a=false):∃r,qTo x x.copies.length=pre++r:=by
 obtain⟨s,p1,p2⟩:=rH o l';exact⟨s,(mF o ((List.Perm.append_left pre p1).trans h1) (List.pairwise_append.2 ⟨h2,p2,λa ha b hb=>h3 a ha b (p1.subset hb)⟩)).symm⟩
def Ip(x:Flt)(c:Nat)(y:Cpy)(s:BA):Flt:={x with copies:=x.copies.set c {y with at_:=s}}
theorem Pa{x:Flt}{c:Nat}{y:Cpy}(hy:x.copies[c]?=some y)(s:BA)(k:Nat):(Ip x c y s).copies[k]?=if c=k then some {y with at_:=s}else x.copies[k]?:=by
 unfold Ip;rw[List.getElem?_set];by_cases e:c=k
 .subst e
  rw[if_pos rfl,if_pos rfl,if_pos (Af hy)]
 rw[if_neg e,if_neg e]
theorem Gb(x:Flt)(c:Nat)(y:Cpy)(s:BA):(Ip x c y s).copies.length=x.copies.length:=List.length_set
theorem Zv{x:Flt}{c:Nat}{y:Cpy}(hy:x.copies[c]?=some y)(s:BA):(Ip x c y s).copies.map (·.name)=x.copies.map (·.name):=by
 apply List.ext_getElem?;intro k;rw[List.getElem?_map,List.getElem?_map,Pa hy];by_cases e:c=k
 .subst e
  rw[if_pos rfl,hy];rfl
 rw[if_neg e]
theorem Wv(cs:List Cpy)(s:BA):∀k,k<=60->Bd cs s (-1) k=Bd cs s ((60:Nat):Int) k
 |0,_=>rfl
 | k+1,hk=>by
  rw[Bd,Bd,Wv cs s k (by omega)]
  cases cs[k]? with
  |none=>rfl
  | some c =>
   by_cases e:c.at_=s
   .simp only[e,true_and]
    rw[if_pos (by omega),if_pos (by omega)]
   simp only[e,false_and]
theorem rU{x:Flt}{c:Nat}{y:Cpy}(hy:x.copies[c]?=some y)(s nm:BA):∀k,k<=60 ->
  Bg (Ip x c y s) 60 nm k=Bg x c nm k+(if c<k/\s=nm then 1 else 0)/\Bl (Ip x c y s) 60 nm k=Bl x c nm k+(if c<k/\s=nm then y.room else 0)/\Ca (Ip x c y s) 60 nm k=Ca x c nm k+(if c<k/\s=nm then y.hold else 0)
 |0,_=>by simp[Bg,Bl,Ca]
 | k+1,hk=>by
  obtain⟨h1,h2,h3⟩:=rU hy s nm k (by omega);rw[Bg,Bg,Bl,Bl,Ca,Ca,h1,h2,h3,Pa hy];by_cases e:c=k
  .subst e
   rw[if_pos rfl,hy];by_cases es:s=nm
   .simp[es,show ¬c=60 by omega]
   simp[es]
  rw[if_neg e];have e1:(c<k+1/\s=nm)↔(c<k/\s=nm):=⟨λh=>⟨by omega,h.2⟩,λh=>⟨by omega,h.2⟩⟩;simp only[e1]
  cases x.copies[k]? with
  |none=>simp
  | some d =>
   by_cases ed:d.at_=nm
   .simp only[ed,true_and,if_pos (show k≠60 by omega),if_pos (show k≠c by omega)]
    omega
   simp only[ed,false_and,if_false];omega
theorem mY{x:Flt}{c:Nat}{y:Cpy}(hy:x.copies[c]?=some y){nm:BA}(hn:¬y.at_=nm):∀k,k<=60->Bg x 60 nm k=Bg x c nm k/\Bl x 60 nm k=Bl x c nm k/\Ca x 60 nm k=Ca x c nm k
 |0,_=>⟨rfl,rfl,rfl⟩
 | k+1,hk=>by
  obtain⟨h1,h2,h3⟩:=mY hy hn k (by omega);rw[Bg,Bg,Bl,Bl,Ca,Ca,h1,h2,h3];by_cases e:c=k
  .subst e
   rw[hy];simp[hn]
  cases x.copies[k]? with
  |none=>simp
  |some d =>
   by_cases ed:d.at_=nm
   .simp only[ed,true_and,if_pos (show k≠60 by omega),if_pos (show k≠c by omega),and_self]
   simp only[ed,false_and,if_false,and_self]
theorem Qf{x:Flt}{ci:Nat}{y:Cpy}:∀(k:Nat)(z:Nat×Brt),z∈Kj x ci y k->Cs x ci y z.2 false=0
 |0,z,h=>by cases h
 | k+1,z,h=>by
  rw[Kj]at h
  split at h
  .exact Qf k z h
  rename_i b hb
  split at h
  .rename_i hf
   rcases List.mem_append.1 h with h|h
   .exact Qf k z h
   rw[List.mem_singleton.1 h];exact hf
  exact Qf k z h
theorem uD{x:Flt}{ci:Nat}{y:Cpy}{k:Nat}{z:Nat×Brt}(h:chT x ci y k=some z):Cs x ci y z.2 false=0:=Qf k z (gR h)
theorem uM{x:Flt}{ci:Nat}{y:Cpy}{b:Brt}(h:Cs x ci y b false=0):Bg x ci b.name x.copies.length<10/\Bl x ci b.name x.copies.length+y.room<=b.room/\Ca x ci b.name x.copies.length+y.hold<=b.hold:=by
 unfold Cs at h;by_cases e1:(b.closed&&!false)=true
 .rw[if_pos e1]at h;cases h
 rw[if_neg e1]at h;by_cases e2:Ir y b=true
 .rw[if_pos e2]at h;cases h
 rw[if_neg e2]at h;by_cases e3:Ch y.select b.marks b.zone=false
 .rw[if_pos e3]at h;cases h
 rw[if_neg e3]at h;by_cases e4:Jr x ci y b=true
 .rw[if_pos e4]at h;cases h
 rw[if_neg e4]at h;by_cases e5:Ib x ci y b=true
 .rw[if_pos e5]at h;cases h
 rw[if_neg e5]at h;by_cases e6:10<=Bg x ci b.name x.copies.length
 .rw[if_pos e6]at h;cases h
 rw[if_neg e6]at h;by_cases e7:b.room<Bl x ci b.name x.copies.length+y.room
 .rw[if_pos e7]at h;cases h
 rw[if_neg e7]at h;by_cases e8:b.hold<Ca x ci b.name x.copies.length+y.hold
 .rw[if_pos e8]at h;cases h
 omega
theorem pJ{x:Flt}(hv:Bb x=true){c bi:Nat}{y:Cpy}{b:Brt}(hy:x.copies[c]?=some y)(hw:y.at_=⟨#[]⟩)(hb:x.berths[bi]?=some b)(hf:Cs x c y b false=0):Bb (Ip x c y b.name)=true:=by
 have hm:=Au hv;have ha:=Dw hv;have hl:=(Bh hv).2.1;have hn:=Zv hy b.name;have hlow:=uM hf;unfold Bb at hv⊢;simp only[Bool.and_eq_true]at hv⊢;obtain⟨h1,h2,h3,h4,h5,h6⟩:=hv;refine⟨?_,?_,h3,h4,?_,?_⟩
 .unfold Dn at h1⊢
  rw[Gb];exact h1
 .unfold En at h2⊢
  rw[Gb,hn];exact h2
 .unfold Br at h5⊢
  rw[Hr]at h5⊢;intro k d hd;rw[Pa hy]at hd;by_cases e:c=k
  .rw[if_pos e]at hd
   cases hd
   have h9:=h5 c y hy;unfold Gn at h9⊢;simp only[Bool.and_eq_true,Bool.or_eq_true]at h9⊢;refine⟨⟨h9.1.1,.inl ?_⟩,h9.2⟩;show(Ar (brN x) b.name x.berths.length).isSome=true
   cases hl9:Ar (brN x) b.name x.berths.length with
   |some i=>rfl
   |none=>exact absurd (show(x.berths.map (·.name))[bi]?=some b.name by rw[List.getElem?_map,hb];rfl) ((Dq _ _ _).1 hl9 bi (Af hb))
  rw[if_neg e]at hd;exact h5 k d hd
 unfold De at h6⊢;rw[Hr]at h6⊢;intro k d hd;have hd':x.berths[k]?=some d:=hd;have h7:=h6 k d hd';have hne:=Gx (hm.2.2.1 k d hd').1;have hr:∀(k:Nat)(c':Cpy),(Ip x c y b.name).copies[k]?=some c'->(0<=c'.room/\c'.room<=1000)/\(0<=c'.hold/\c'.hold<=1000):=λk c' h=>by
  rw[Pa hy]at h;by_cases e:c=k
  .rw[if_pos e]at h
   cases h
   exact⟨(hm.2.2.2 c y hy).1,(ha.1 c y hy).1⟩
  rw[if_neg e]at h;exact⟨(hm.2.2.2 k c' h).1,(ha.1 k c' h).1⟩
 have t:=rU hy b.name d.name x.copies.length hl;have u:=mY hy (nm:=d.name) (λe=>hne (by rw[<-e];exact hw)) x.copies.length hl;have hcl:=Af hy;unfold Jb at h7⊢;simp only[Bool.and_eq_true,decide_eq_true_eq,Gb]at h7⊢;rw[Wv _ _ _ hl,Nr 60 d.name _ hl,Ph 60 d.name (λk c h=>((hm.2.2.2 k c h).1)) _ hl,Qu 60 d.name (λk c h=>(ha.1 k c h).1) _ hl]at h7;rw[Wv _ _ _ hl,Nr (x:=Ip x c y b.name) 60 d.name _ hl,Ph (x:=Ip x c y b.name) 60 d.name (λk c h=>(hr k c h).1) _ hl,Qu (x:=Ip x c y b.name) 60 d.name (λk c h=>(hr k c h).2) _ hl,t.1,t.2.1,t.2.2];rw[u.1,u.2.1,u.2.2]at h7;by_cases e:b.name=d.name
 .have hbd:d=b:=by
   have:=hm.2.1.inj (i:=k) (j:=bi) (show(brN x)[k]?=some b.name by show(x.berths.map (·.name))[k]?=_;rw[List.getElem?_map,hd',e];rfl) (show(brN x)[bi]?=some b.name by show(x.berths.map (·.name))[bi]?=_;rw[List.getElem?_map,hb];rfl);subst this;rw[hb]at hd';exact(Option.some.inj hd').symm
  subst hbd;simp only[hcl,true_and,if_true];omega
 simp only[e,and_false,if_false];omega
def Jk(x:Flt):Option (Flt×(BA×BA)):=match Fv x with
 |none=>none
 |some (c,z)=>match x.copies[c]? with
  |none=>none
  |some y=>some (Ip x c y z.2.name,(y.name,z.2.name))
theorem Jw{x:Flt}{x':Flt}{s:BA×BA}(h:Jk x=some (x',s)):∃c z y,Fv x=some (c,z)/\x.copies[c]?=some y/\y.at_=⟨#[]⟩/\chT x c y x.berths.length=some z/\x'=Ip x c y z.2.name/\s=(y.name,z.2.name):=by
 unfold Jk at h
 cases hq:Fv x with
 |none=>rw[hq]at h;cases h
 | some p =>
  obtain⟨c,z⟩:=p;rw[hq]at h;simp only at h
  cases hy:x.copies[c]? with
  |none=>rw[hy]at h;cases h
  |some y =>
   rw[hy]at h;cases h
   obtain⟨h1,h2⟩:=Mo hq;unfold chF at h2;rw[hy]at h2;have h3:=(List.mem_filter.1 ((Ih x _).subset h1)).2;unfold wtB at h3;rw[hy]at h3;exact⟨c,z,y,rfl,hy,by simpa using h3,h2,rfl,rfl⟩
theorem Tz{x:Flt}{c:Nat}{z:Nat×Brt}{y:Cpy}(hq:Fv x=some (c,z))(hy:x.copies[c]?=some y):Jk x=some (Ip x c y z.2.name,(y.name,z.2.name)):=by
 unfold Jk;rw[hq];simp only;rw[hy]
theorem Yt{x:Flt}(hq:Fv x=none):Jk x=none:=by
 unfold Jk;rw[hq]
theorem Oy{x x':Flt}{s:BA×BA}(hv:Bb x=true)(h:Jk x=some (x',s)):Bb x'=true:=by
 obtain⟨c,z,y,_,hy,hw,hc,rfl,_⟩:=Jw h;exact pJ hv hy hw (Gg hc).1 (uD hc)
def wcF(x:Flt):Nat:=(Iq x x.copies.length).length
theorem Rg{x x':Flt}{s:BA×BA}(hv:Bb x=true)(h:Jk x=some (x',s)):wcF x'<wcF x:=by
 obtain⟨c,z,y,_,hy,hw,hc,rfl,_⟩:=Jw h;have hne:=Gx ((Au hv).2.2.1 _ _ (Gg hc).1).1;unfold wcF;rw[Gb];have e:Iq (Ip x c y z.2.name) x.copies.length=(Iq x x.copies.length).filter (λi=>decide (i≠c)):=by
  unfold Iq;rw[List.filter_filter];apply List.filter_congr;intro i _;unfold wtB;rw[Pa hy];by_cases ei:c=i
  .subst ei
   simp[hne]
  rw[if_neg ei];simp[show ¬i=c from λh=>ei h.symm]
 rw[e,List.length_filter_lt_length_iff_exists];exact⟨c,List.mem_filter.2 ⟨List.mem_range.2 (Af hy),by unfold wtB;rw[hy];simpa using hw⟩,by simp⟩
def nxP(st:Flt×List (BA×BA)):Flt×List (BA×BA):=match Jk st.1 with
 |none=>st
 |some (x',s)=>(x',st.2++[s])
def stP(x:Flt):Nat->Flt×List (BA×BA)
 |0=>(x,[])
 |k+1=>nxP (stP x k)
def plR(x:Flt):Flt×List (BA×BA):=stP x 61
theorem Tk{x:Flt}{k:Nat}(h:Jk (stP x k).1=none):∀j,stP x (k+j)=stP x k
 |0=>rfl
 |j+1=>by
  show nxP (stP x (k+j))=_
  rw[Tk h j];unfold nxP;rw[h]
theorem mJ{x:Flt}{k:Nat}(h:Jk (stP x k).1=none)(hk:k<=60):plR x=stP x k:=by
 unfold plR;rw[show 61=k+(61-k) by omega];exact Tk h _
theorem Kh{x:Flt}{k:Nat}{x':Flt}{s:BA×BA}(h:Jk (stP x k).1=some (x',s)):stP x (k+1)=(x',(stP x k).2++[s]):=by
 show nxP (stP x k)=_
 unfold nxP;rw[h]
end Go.Proofs.YthboopnmbglkjaaGreat
