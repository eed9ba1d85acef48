import Derived.Test.YtpidfnfilnkhkaaGreatShp
namespace Go.Proofs.YtpidfnfilnkhkaaGreat
def Cf{α:Type}[DecidableEq α](lt:α->α->Bool):List α->List α->Bool
 |[],[]=>false
 |[],_::_=>true
 |_::_,[]=>false
 |a::x,b::y=>if a=b then Cf lt x y else lt a b
structure Tot {α:Type} (lt:α->α->Bool):Prop where
 irr:∀a,lt a a=false
 tr:∀a b c,lt a b=true->lt b c=true->lt a c=true
 tot:∀a b,lt a b=false->lt b a=false->a=b
theorem Tot.asym{α:Type}{lt:α->α->Bool}(h:Tot lt){a b:α}(k:lt a b=true):lt b a=false:=by
 cases e:lt b a with
 |false=>rfl
 |true=>have:=h.tr a b a k e;rw[h.irr]at this;cases this
theorem Cr{α:Type}[DecidableEq α]{lt:α->α->Bool}(h:Tot lt):Tot (Cf lt):=by
 refine⟨?_,?_,?_⟩
 .intro a
  induction a with
  |nil=>rfl
  |cons a x ih=>unfold Cf;rw[if_pos rfl];exact ih
 .intro a
  induction a with
  | nil =>
   intro b c h1 h2
   cases b with
   |nil=>cases h1
   |cons b y=>cases c with
    |nil=>cases h2
    |cons c z=>rfl
  | cons a x ih =>
   intro b c h1 h2
   cases b with
   |nil=>cases h1
   | cons b y=>cases c with
    |nil=>cases h2
    | cons c z =>
     unfold Cf at h1 h2⊢;by_cases e1:a=b
     .subst e1
      rw[if_pos rfl]at h1;by_cases e2:a=c
      .rw[if_pos e2]at h2⊢;exact ih y z h1 h2
      .rw[if_neg e2]at h2⊢;exact h2
     .rw[if_neg e1]at h1
      by_cases e2:b=c
      .subst e2
       rw[if_neg e1];exact h1
      .rw[if_neg e2]at h2
       have h3:=h.tr _ _ _ h1 h2;rw[if_neg (λe=>by subst e;rw[h.irr]at h3;cases h3)];exact h3
 .intro a
  induction a with
  |nil =>
   intro b h1 h2
   cases b with
   |nil=>rfl
   |cons b y=>cases h1
  | cons a x ih =>
   intro b h1 h2
   cases b with
   |nil=>cases h2
   | cons b y =>
    unfold Cf at h1 h2;by_cases e:a=b
    .subst e
     rw[if_pos rfl]at h1 h2;rw[ih y h1 h2]
    .rw[if_neg e]at h1
     rw[if_neg (λk=>e k.symm)]at h2;exact absurd (h.tot _ _ h1 h2) e
theorem cY{α:Type}[DecidableEq α]{lt:α->α->Bool}:∀(p:List α)(a:α)(t:List α),Cf lt p (p++a::t)=true
 |[],_,_=>rfl
 |b::p,a,t=>by
  rw[List.cons_append];unfold Cf;rw[if_pos rfl];exact cY p a t
theorem mM{α:Type}[DecidableEq α]{lt:α->α->Bool}(h:Tot lt):∀(p:List α)(a b:α)(s t:List α),lt a b=true->Cf lt (p++a::s) (p++b::t)=true
 |[],a,b,s,t,k=>by
  rw[List.nil_append,List.nil_append];unfold Cf;rw[if_neg (λe=>by subst e;rw[h.irr]at k;cases k)];exact k
 |c::p,a,b,s,t,k=>by
  rw[List.cons_append,List.cons_append];unfold Cf;rw[if_pos rfl];exact mM h p a b s t k
def ltI(a b:Int):Bool:=decide (a<b)
def ltP(a b:Nat):Bool:=decide (a<b)
theorem Gy:Tot ltI:=⟨λa=>by simp[ltI],λa b c h1 h2=>by simp[ltI]at *;omega,λa b h1 h2=>by simp[ltI]at *;omega⟩
theorem Ji:Tot ltP:=⟨λa=>by simp[ltP],λa b c h1 h2=>by simp[ltP]at *;omega,λa b h1 h2=>by simp[ltP]at *;omega⟩
def Fv(e:Nat):List Nat->List Nat
 |[]=>[e]
 |a::l=>if a<e then a::Fv e l else e::a::l
theorem Fz(e:Nat):∀l,(Fv e l).Perm (e::l)
 |[]=>.refl _
 |a::l=>by
  unfold Fv
  split
  .exact((Fz e l).cons a).trans (.swap e a l)
  .exact .refl _
theorem Er{e a:Nat}{l:List Nat}:a∈Fv e l↔a=e\/a∈l:=by rw[(Fz e l).mem_iff,List.mem_cons]
theorem Mu{e:Nat}:∀{l:List Nat},l.Pairwise (·<·)->e∉l->(Fv e l).Pairwise (·<·)
 |[],_,_=>by simp[Fv]
 | a::l,h,he=>by
  rw[List.pairwise_cons]at h;unfold Fv
  split
  case isTrue hl =>
   rw[List.pairwise_cons];refine⟨λb hb=>?_,Mu h.2 (λk=>he (List.mem_cons_of_mem _ k))⟩;rcases Er.1 hb with rfl|hb
   .exact hl
   .exact h.1 b hb
  case isFalse hl =>
   have hne:e≠a:=λk=>he (by rw[k];exact List.mem_cons_self)
   rw[List.pairwise_cons];refine⟨λb hb=>?_,by rw[List.pairwise_cons];exact h⟩;rcases List.mem_cons.1 hb with rfl|hb
   .omega
   .have:=h.1 b hb;omega
theorem lA:∀{a b:List Nat},a.Pairwise (·<·)->b.Pairwise (·<·)->(∀e,e∈a↔e∈b)->a=b
 |[],[],_,_,_=>rfl
 |[],b::y,_,_,h=>by have:=(h b).2 List.mem_cons_self;cases this
 |a::x,[],_,_,h=>by have:=(h a).1 List.mem_cons_self;cases this
 | a::x,b::y,h1,h2,h=>by
  rw[List.pairwise_cons]at h1 h2;have e:a=b:=by
   rcases List.mem_cons.1 ((h a).1 List.mem_cons_self)with e|e
   .exact e
   .rcases List.mem_cons.1 ((h b).2 List.mem_cons_self)with k|k
    .exact k.symm
    .have:=h2.1 a e;have:=h1.1 b k;omega
  subst e;rw[lA h1.2 h2.2 (λe=>⟨λk=>?_,λk=>?_⟩)]
  .rcases List.mem_cons.1 ((h e).1 (List.mem_cons_of_mem _ k))with q|q
   .have:=h1.1 e k;omega
   .exact q
  .rcases List.mem_cons.1 ((h e).2 (List.mem_cons_of_mem _ k))with q|q
   .have:=h2.1 e k;omega
   .exact q
def gR(r:Int):List Int->List Int
 |[]=>[r]
 |a::l=>if r<=a then a::gR r l else r::a::l
def wP(l:List Int):List Int:=l.foldr gR []
def Bo(r:Nat->Int)(l:List Nat):List Int:=wP (l.map r)
theorem Qv(r:Int):∀o,(gR r o).Perm (r::o)
 |[]=>.refl _
 |a::l=>by
  unfold gR
  split
  .exact((Qv r l).cons a).trans (.swap r a l)
  .exact .refl _
theorem Xy{r:Int}:∀{o:List Int},o.Pairwise (λa b=>b<=a)->(gR r o).Pairwise (λa b=>b<=a)
 |[],_=>by simp[gR]
 | a::l,h=>by
  rw[List.pairwise_cons]at h;unfold gR
  split
  case isTrue hra =>
   rw[List.pairwise_cons];refine⟨λb hb=>?_,Xy h.2⟩;rcases List.mem_cons.1 ((Qv r l).subset hb)with e|e
   .rw[e];exact hra
   .exact h.1 b e
  case isFalse hra =>
   rw[List.pairwise_cons];refine⟨λb hb=>?_,by rw[List.pairwise_cons];exact h⟩;rcases List.mem_cons.1 hb with e|e
   .rw[e];omega
   .have:=h.1 b e
    omega
theorem Kg:∀l:List Int,(wP l).Perm l
 |[]=>.refl _
 |a::l=>(Qv a (wP l)).trans ((Kg l).cons a)
theorem Na:∀l:List Int,(wP l).Pairwise (λa b=>b<=a)
 |[]=>List.Pairwise.nil
 |_::l=>Xy (Na l)
theorem Vy:∀{a b:List Int},a.Pairwise (λx y=>y<=x)->b.Pairwise (λx y=>y<=x)->a.Perm b->a=b
 |[],b,_,_,h=>by rw[List.nil_perm.1 h]
 |_::_,[],_,_,h=>by have:=h.length_eq;simp at this
 | a::x,b::y,h1,h2,h=>by
  have e:a=b:=by
   have ha:=h.subset (List.mem_cons_self (a:=a) (l:=x));have hb:=h.symm.subset (List.mem_cons_self (a:=b) (l:=y));rw[List.pairwise_cons]at h1 h2;rcases List.mem_cons.1 ha with e|e
   .exact e
   .rcases List.mem_cons.1 hb with k|k
    .exact k.symm
    .have:=h2.1 a e;have:=h1.1 b k;omega
  subst e;rw[Vy (List.pairwise_cons.1 h1).2 (List.pairwise_cons.1 h2).2 (List.Perm.cons_inv h)]
theorem sO{r:Nat->Int}{e:Nat}{l:List Nat}(h:∀a∈Bo r l,r e<=a):Bo r (Fv e l)=Bo r l++[r e]:=by
 refine Vy (Na _) ?_ ?_
 .rw[List.pairwise_append]
  exact⟨Na _,by simp,λa ha b hb=>by rw[List.mem_singleton.1 hb];exact h a ha⟩
 .refine(Kg _).trans (((Fz e l).map r).trans ?_)
  rw[List.map_cons];exact((Kg (l.map r)).symm.cons (r e)).trans (List.perm_append_singleton _ _).symm
def hLt(r:Nat->Int)(a b:List Nat):Bool:=Cf ltI (Bo r a) (Bo r b)||(decide (Bo r a=Bo r b)&&Cf ltP a b)
theorem wW(r:Nat->Int){a b:List Nat}(h1:hLt r a b=false)(h2:hLt r b a=false):a=b:=by
 unfold hLt at h1 h2;rw[Bool.or_eq_false_iff]at h1 h2;have e:=(Cr Gy).tot _ _ h1.1 h2.1;have e1:=h1.2;have e2:=h2.2;rw[decide_eq_true e,Bool.true_and]at e1;rw[decide_eq_true e.symm,Bool.true_and]at e2;exact(Cr Ji).tot _ _ e1 e2
def El(srv:List Nat->List Nat->Bool)(ls gs:List (List Nat)):List (List Nat) :=
 ls.flatMap λg=>(((gs.getLast?.getD []).reverse.takeWhile λe=>!g.contains e).map λe=>Fv e g).filter λl=>srv l gs.flatten
def Gp(srv:List Nat->List Nat->Bool)(ls gs:List (List Nat)):List (List Nat):=(El srv ls gs).mergeSort λa b=>!Cf ltP b a
def Dy(srv:List Nat->List Nat->Bool):Nat->List (List Nat)->List (List Nat)->List (List Nat)
 |0,ls,_=>ls
 |f+1,ls,gs=>ls++(List.range gs.length).flatMap λi=>Dy srv f (Gp srv ls (gs.take (i+1))) (gs.take (i+1))
theorem Py{srv:List Nat->List Nat->Bool}{ls gs:List (List Nat)}{l:List Nat}:l∈Gp srv ls gs↔∃g∈ls,∃e,e∈(gs.getLast?.getD []).reverse.takeWhile (λe=>!g.contains e)/\l=Fv e g/\srv l gs.flatten=true:=by
 unfold Gp;rw[(List.mergeSort_perm _ _).mem_iff];unfold El;simp only[List.mem_flatMap,List.mem_filter,List.mem_map];constructor
 .rintro⟨g,hg,⟨e,he,rfl⟩,hs⟩
  exact⟨g,hg,e,he,rfl,hs⟩
 .rintro⟨g,hg,e,he,rfl,hs⟩
  exact⟨g,hg,⟨e,he,rfl⟩,hs⟩
theorem Tg(srv:List Nat->List Nat->Bool)(ls gs:List (List Nat)):(Gp srv ls gs).Pairwise λa b=>Cf ltP b a=false:=by
 have T:=Cr Ji
 have h:=List.pairwise_mergeSort (le:=λa b=>!Cf ltP b a) (λa b c h1 h2=>by
  simp only[Bool.not_eq_true']at h1 h2⊢
  cases e:Cf ltP c a with
  |false=>rfl
  | true =>
   cases k:Cf ltP a b with
   |true=>rw[T.tr _ _ _ e k]at h2;cases h2
   |false =>
    have:=T.tot _ _ k h1;subst this;rw[e]at h2;cases h2) (λa b=>by
  simp only[Bool.or_eq_true,Bool.not_eq_true']
  cases e:Cf ltP b a with
  |false=>exact .inl rfl
  |true=>exact .inr (T.asym e)) (El srv ls gs)
 exact h.imp (λh=>by simpa using h)
theorem tU{r:Nat->Int}{a b:List Nat}{c:Int}{t:List Int}(h:Bo r b=Bo r a++c::t):hLt r b a=false:=by
 have T:=Cr Gy;have h1:Cf ltI (Bo r a) (Bo r b)=true:=by rw[h];exact cY _ _ _
 unfold hLt;rw[T.asym h1,decide_eq_false (λe=>by rw[e,T.irr]at h1;cases h1)];rfl
theorem xA{r:Nat->Int}{a b:List Nat}{p s t:List Int}{c d:Int}(ha:Bo r a=p++c::s)(hb:Bo r b=p++d::t)(hcd:c<d):hLt r b a=false:=by
 have T:=Cr Gy;have h1:Cf ltI (Bo r a) (Bo r b)=true:=by rw[ha,hb];exact mM Gy _ _ _ _ _ (by simpa[ltI]using hcd)
 unfold hLt;rw[T.asym h1,decide_eq_false (λe=>by rw[e,T.irr]at h1;cases h1)];rfl
theorem Yh{r:Nat->Int}{a b:List Nat}(h:Bo r a=Bo r b)(hl:Cf ltP b a=false):hLt r b a=false:=by
 unfold hLt;rw[h,(Cr Gy).irr,hl,Bool.and_false];rfl
structure Grp (r:Nat->Int) (gs:List (List Nat)):Prop where
 ne:∀g∈gs,g≠[]
 asc:∀g∈gs,g.Pairwise (·<·)
 one:∀g∈gs,∀a∈g,∀b∈g,r a=r b
 up:gs.Pairwise λg h=>∀a∈g,∀b∈h,r a<r b
theorem Grp.take{r:Nat->Int}{gs:List (List Nat)}(h:Grp r gs)(n:Nat):Grp r (gs.take n) :=
 ⟨λg hg=>h.ne g (List.mem_of_mem_take hg),λg hg=>h.asc g (List.mem_of_mem_take hg),λg hg=>h.one g (List.mem_of_mem_take hg),h.up.sublist (List.take_sublist n gs)⟩
theorem Rb{α:Type}{gs:List α}{i:Nat}(hi:i<gs.length):(gs.take (i+1)).getLast?=some gs[i]:=by
 rw[List.getLast?_eq_getElem?,List.length_take,Nat.min_eq_left (by omega),Nat.add_sub_cancel,List.getElem?_take,if_pos (by omega),gE hi]
theorem Grp.below{r:Nat->Int}{gs:List (List Nat)}(h:Grp r gs){i:Nat}(hi:i<gs.length){c:Nat}(hc:c∈gs[i]):∀g∈gs.take (i+1),∀a∈g,r a<=r c:=by
 intro g hg a ha;obtain⟨j,hj,rfl⟩:=List.mem_iff_getElem.1 hg;rw[List.length_take]at hj;rw[List.getElem_take]at ha;by_cases e:j=i
 .subst e
  exact Int.le_of_eq (h.one _ (List.getElem_mem hi) a ha c hc)
 .have:=(List.pairwise_iff_getElem.1 h.up) j i (by omega) hi (by omega) a ha c hc
  omega
structure NdV (r:Nat->Int) (H:List Int) (ls gs:List (List Nat)):Prop where
 harm:∀l∈ls,Bo r l=H
 asc:∀l∈ls,l.Pairwise (·<·)
 ord:ls.Pairwise λa b=>Cf ltP b a=false
 low:∀a∈H,∀g∈gs,∀c∈g,r c<=a
theorem NdV.next{r:Nat->Int}{H:List Int}{ls gs:List (List Nat)}(srv:List Nat->List Nat->Bool)(h:NdV r H ls gs)(hg:Grp r gs){i:Nat}(hi:i<gs.length){c:Nat}(hc:c∈gs[i]):NdV r (H++[r c]) (Gp srv ls (gs.take (i+1))) (gs.take (i+1)):=by
 refine⟨?_,?_,Tg _ _ _,?_⟩
 .intro l hl
  obtain⟨g,hgl,e,he,rfl,_⟩:=Py.1 hl;rw[Rb hi]at he;have he2:=List.mem_reverse.1 ((List.takeWhile_sublist _).subset he);have hee:e∈gs[i]:=he2;have hre:r e=r c:=hg.one _ (List.getElem_mem hi) e hee c hc;rw[sO (λa ha=>by rw[h.harm g hgl]at ha;exact h.low a ha _ (List.getElem_mem hi) e hee),h.harm g hgl,hre]
 .intro l hl
  obtain⟨g,hgl,e,he,rfl,_⟩:=Py.1 hl;have hne:e∉g:=by
   have:=List.all_takeWhile (l:=(((gs.take (i+1)).getLast?.getD []).reverse)) (p:=λe=>!g.contains e);have h1:=List.all_eq_true.1 this e he;simpa using h1
  exact Mu (h.asc g hgl) hne
 .intro a ha g hgg b hb
  rcases List.mem_append.1 ha with ha|ha
  .exact h.low a ha g (List.mem_of_mem_take hgg) b hb
  .rw[List.mem_singleton.1 ha]
   exact hg.below hi hc g hgg b hb
theorem Nq{r:Nat->Int}(srv:List Nat->List Nat->Bool):∀(f:Nat){H:List Int}{ls gs:List (List Nat)},NdV r H ls gs->Grp r gs->∀l∈Dy srv f ls gs,∃t,Bo r l=H++t
 |0,H,ls,gs,h,_,l,hl=>⟨[],by rw[List.append_nil];exact h.harm l hl⟩
 | f+1,H,ls,gs,h,hg,l,hl=>by
  unfold Dy at hl;rcases List.mem_append.1 hl with hl|hl
  .exact⟨[],by rw[List.append_nil];exact h.harm l hl⟩
  .obtain⟨i,hi,hl⟩:=List.mem_flatMap.1 hl
   have hi:=List.mem_range.1 hi;obtain⟨c,hc⟩:=List.exists_mem_of_ne_nil _ (hg.ne _ (List.getElem_mem hi));obtain⟨t,ht⟩:=Nq srv f (h.next srv hg hi hc) (hg.take _) l hl;exact⟨r c::t,by rw[ht,List.append_assoc];rfl⟩
theorem eA{r:Nat->Int}(srv:List Nat->List Nat->Bool):∀(f:Nat){H:List Int}{ls gs:List (List Nat)},NdV r H ls gs->Grp r gs->(Dy srv f ls gs).Pairwise λa b=>hLt r b a=false
 | 0,H,ls,gs,h,_=>(List.pairwise_iff_forall_sublist.2 λ{a b} hs=>by
   have ha:=h.harm a (hs.subset (by simp));have hb:=h.harm b (hs.subset (by simp))
   exact Yh (ha.trans hb.symm) (List.pairwise_iff_forall_sublist.1 h.ord hs))
 | f+1,H,ls,gs,h,hg=>by
  unfold Dy;rw[List.pairwise_append];refine⟨List.pairwise_iff_forall_sublist.2 λ{a b} hs=>?_,?_,?_⟩
  .have ha:=h.harm a (hs.subset (by simp))
   have hb:=h.harm b (hs.subset (by simp));exact Yh (ha.trans hb.symm) (List.pairwise_iff_forall_sublist.1 h.ord hs)
  .rw[List.pairwise_flatMap]
   refine⟨λi hi=>?_,?_⟩
   .have hi:=List.mem_range.1 hi
    obtain⟨c,hc⟩:=List.exists_mem_of_ne_nil _ (hg.ne _ (List.getElem_mem hi));exact eA srv f (h.next srv hg hi hc) (hg.take _)
   .refine List.pairwise_iff_getElem.2 λi j hi hj hij a ha b hb=>?_
    rw[List.getElem_range]at ha hb;have hj2:j<gs.length:=by simpa using hj
    have hi2:i<gs.length:=by omega
    obtain⟨c,hc⟩:=List.exists_mem_of_ne_nil _ (hg.ne _ (List.getElem_mem hi2));obtain⟨d,hd⟩:=List.exists_mem_of_ne_nil _ (hg.ne _ (List.getElem_mem hj2));obtain⟨s,hs⟩:=Nq srv f (h.next srv hg hi2 hc) (hg.take _) a ha;obtain⟨t,ht⟩:=Nq srv f (h.next srv hg hj2 hd) (hg.take _) b hb;rw[List.append_assoc]at hs ht;exact xA hs ht ((List.pairwise_iff_getElem.1 hg.up) i j hi2 hj2 hij c hc d hd)
  .intro a ha b hb
   obtain⟨i,hi,hb⟩:=List.mem_flatMap.1 hb;have hi:=List.mem_range.1 hi;obtain⟨c,hc⟩:=List.exists_mem_of_ne_nil _ (hg.ne _ (List.getElem_mem hi));obtain⟨t,ht⟩:=Nq srv f (h.next srv hg hi hc) (hg.take _) b hb;rw[List.append_assoc]at ht;exact tU (a:=a) (b:=b) (c:=r c) (t:=t) (by rw[ht,h.harm a ha];rfl)
theorem fG{srv:List Nat->List Nat->Bool}{ok:List Nat->Prop}(hok:∀l g,srv l g=true->ok l){U:Nat->Prop}:∀(f:Nat){ls gs:List (List Nat)},(∀l∈ls,l.Pairwise (·<·)/\(∀e∈l,U e)/\ok l)->(∀g∈gs,∀e∈g,U e)->∀l∈Dy srv f ls gs,l.Pairwise (·<·)/\(∀e∈l,U e)/\ok l
 |0,ls,gs,h,_,l,hl=>h l hl
 | f+1,ls,gs,h,hU,l,hl=>by
  unfold Dy at hl;rcases List.mem_append.1 hl with hl|hl
  .exact h l hl
  .obtain⟨i,hi,hl⟩:=List.mem_flatMap.1 hl
   refine fG hok f (λl hl=>?_) (λg hg=>hU g (List.mem_of_mem_take hg)) l hl;have hi:=List.mem_range.1 hi;obtain⟨g,hgl,e,he,rfl,hs⟩:=Py.1 hl;rw[Rb hi]at he;have hee:e∈gs[i]:=List.mem_reverse.1 ((List.takeWhile_sublist _).subset he);have hne:e∉g:=by
    have h1:=List.all_eq_true.1 (List.all_takeWhile (l:=((some gs[i]).getD []).reverse) (p:=λe=>!g.contains e)) e he;simpa using h1
   refine⟨Mu (h g hgl).1 hne,λa ha=>?_,hok _ _ hs⟩;rcases Er.1 ha with rfl|ha
   .exact hU _ (List.getElem_mem hi) _ hee
   .exact(h g hgl).2.1 a ha
theorem Yl{p:Nat->Bool}{e:Nat}:∀{l:List Nat},e∈l->l.Pairwise (λa b=>b<a)->(∀a∈l,e<=a->p a=true)->e∈l.takeWhile p
 | a::l,he,hl,hp=>by
  rw[List.pairwise_cons]at hl;rcases List.mem_cons.1 he with rfl|he
  .rw[List.takeWhile_cons_of_pos (hp e List.mem_cons_self nL)]
   exact List.mem_cons_self
  .have:=hl.1 e he
   rw[List.takeWhile_cons_of_pos (hp a List.mem_cons_self (by omega))];exact List.mem_cons_of_mem _ (Yl he hl.2 (λb hb=>hp b (List.mem_cons_of_mem _ hb)))
theorem tQ{P:Nat->Prop}[DecidablePred P]:∀(n:Nat),(∃i,i<n/\P i)->∃i,i<n/\P i/\∀j,j<n->P j->j<=i
 |0,⟨i,hi,_⟩=>by omega
 | n+1,h=>by
  by_cases e:P n
  .exact⟨n,by omega,e,λj hj _=>by omega⟩
  .obtain⟨i,hi,hp⟩:=h
   have:i≠n:=λq=>e (q▸hp)
   obtain⟨i,h1,h2,h3⟩:=tQ n ⟨i,by omega,hp⟩
   exact⟨i,by omega,h2,λj hj hp=>by
    have:j≠n:=λq=>e (q▸hp)
    exact h3 j (by omega) hp⟩
theorem qU:∀{l:List Nat},l≠[]->∃e∈l,∀a∈l,e<=a
 |[a],_=>⟨a,by simp,by simp⟩
 |a::b::l,_=>by
  obtain⟨e,he,hm⟩:=qU (l:=b::l) (by simp);by_cases h:a<=e
  .exact⟨a,by simp,λc hc=>by
    rcases List.mem_cons.1 hc with rfl|hc
    .exact Nat.le_refl _
    .exact lT h (hm c hc)⟩
  .exact⟨e,List.mem_cons_of_mem _ he,λc hc=>by
    rcases List.mem_cons.1 hc with rfl|hc
    .omega
    .exact hm c hc⟩
theorem Hy:∀{a b:List Nat},a.Pairwise (·<·)->b.Pairwise (·<·)->(∀e∈a,e∈b)->a.Sublist b
 |[],b,_,_,_=>List.nil_sublist b
 |a::x,[],_,_,h=>by have:=h a List.mem_cons_self;cases this
 | a::x,b::y,h1,h2,h=>by
  rw[List.pairwise_cons]at h2;by_cases e:a=b
  .subst e
   refine(Hy (List.pairwise_cons.1 h1).2 h2.2 (λc hc=>?_)).cons_cons a;rcases List.mem_cons.1 (h c (List.mem_cons_of_mem _ hc))with q|q
   .have:=(List.pairwise_cons.1 h1).1 c hc;omega
   .exact q
  .have hay:a∈y:=(List.mem_cons.1 (h a List.mem_cons_self)).resolve_left e
   have hba:=h2.1 a hay;refine(Hy h1 h2.2 (λc hc=>?_)).cons b;rcases List.mem_cons.1 (h c hc)with q|q
   .rcases List.mem_cons.1 hc with k|k
    .omega
    .have:=(List.pairwise_cons.1 h1).1 c k;omega
   .exact q
theorem rD{r:Nat->Int}{srv:List Nat->List Nat->Bool}{h:List Nat}(hh:h.Pairwise (·<·))(hs:∀Q all:List Nat,Q.Pairwise (·<·)->(∀e∈Q,e∈h)->Q≠[]->(∀e∈h,e∈Q\/e∈all)->srv Q all=true):∀(f:Nat){P:List Nat}{ls gs:List (List Nat)},h.length<=P.length+f->Grp r gs->P∈ls->P.Pairwise (·<·)->(∀e∈P,e∈h)->(∀e∈h,e∉P->∃g∈gs,e∈g)->(∀(i:Nat)(hi:i<gs.length),∀a∈P,a∈gs[i]->i+1=gs.length/\∀e∈h,e∉P->e∈gs[i]->a<e)->h∈Dy srv f ls gs:=by
 intro f;have sub_len:∀{P:List Nat},P.Pairwise (·<·)->(∀e∈P,e∈h)->h.length<=P.length->P=h:=by
  intro P h1 h2 h3;exact(Hy h1 hh h2).eq_of_length_le h3
 induction f with
 |zero =>
  intro P ls gs hl _ hP h1 h2 _ _;have:=sub_len h1 h2 (by omega);subst this;exact hP
 | succ f ih =>
  intro P ls gs hl hg hP h1 h2 h3 h4;unfold Dy;by_cases hd:∃e∈h,e∉P
  case neg =>
   have:P=h:=lA h1 hh (λe=>⟨h2 e,λk=>Classical.byContradiction λq=>hd ⟨e,k,q⟩⟩);subst this;exact List.mem_append_left _ hP
  refine List.mem_append_right _ ?_;obtain⟨e0,he0,hn0⟩:=hd;obtain⟨g0,hg0,hm0⟩:=h3 e0 he0 hn0;obtain⟨i0,hi0,rfl⟩:=List.mem_iff_getElem.1 hg0;obtain⟨i,hi,hpi,hmx⟩:=tQ (P:=λi=>∃e∈h,e∉P/\e∈gs.getD i []) gs.length ⟨i0,hi0,e0,he0,hn0,by rw[List.getD_eq_getElem?_getD,gE hi0];exact hm0⟩;rw[List.getD_eq_getElem?_getD,gE hi]at hpi
  obtain⟨e,he,hmn⟩:=qU (l:=h.filter λe=>decide (e∉P)&&decide (e∈gs[i])) (by
   obtain⟨e,q1,q2,q3⟩:=hpi
   exact List.ne_nil_of_mem (List.mem_filter.2 ⟨q1,by simpa using⟨q2,q3⟩⟩))
  have hef:=List.mem_filter.1 he;have hmin:∀a∈h,a∉P->a∈gs[i]->e<=a:=λa k1 k2 k3=>hmn a (List.mem_filter.2 ⟨k1,by simpa using⟨k2,k3⟩⟩)
  obtain⟨heh,hq⟩:=hef;have hq2:e∉P/\e∈gs[i]:=by simpa using hq
  obtain⟨heP,heg⟩:=hq2;have hasc:=Mu h1 heP;have hsub:∀a∈Fv e P,a∈h:=λa ha=>by
   rcases Er.1 ha with rfl|ha
   .exact heh
   .exact h2 a ha
  have hlast:∀a∈h,a∉Fv e P->∃g∈gs.take (i+1),a∈g:=by
   intro a ha hna;have hna2:a∉P:=λk=>hna (Er.2 (.inr k))
   obtain⟨g,hgg,hag⟩:=h3 a ha hna2;obtain⟨j,hj,rfl⟩:=List.mem_iff_getElem.1 hgg;have hji:=hmx j hj ⟨a,ha,hna2,by rw[List.getD_eq_getElem?_getD,gE hj];exact hag⟩;exact⟨gs[j],List.mem_iff_getElem.2 ⟨j,by rw[List.length_take];omega,by rw[List.getElem_take]⟩,hag⟩
  have hmem:Fv e P∈Gp srv ls (gs.take (i+1)):=by
   refine Py.2 ⟨P,hP,e,?_,rfl,?_⟩
   .rw[Rb hi]
    refine Yl (List.mem_reverse.2 heg) (List.pairwise_reverse.2 (hg.asc _ (List.getElem_mem hi))) (λa ha hea=>?_);have ha2:a∈gs[i]:=List.mem_reverse.1 ha;have:a∉P:=λhap=>by
     have:=(h4 i hi a hap ha2).2 e heh heP heg;omega
    simpa using this
   .refine hs _ _ hasc hsub (List.ne_nil_of_mem (Er.2 (.inl rfl))) (λa ha=>?_)
    by_cases k:a∈Fv e P
    .exact .inl k
    .obtain⟨g,q1,q2⟩:=hlast a ha k
     exact .inr (List.mem_flatten.2 ⟨g,q1,q2⟩)
  refine List.mem_flatMap.2 ⟨i,List.mem_range.2 hi,ih (P:=Fv e P) ?_ (hg.take _) hmem hasc hsub hlast ?_⟩
  .rw[(Fz e P).length_eq,List.length_cons];omega
  .intro j hj a ha haj
   have hj2:j<gs.length/\j<=i:=by rw[List.length_take]at hj;omega
   rw[List.getElem_take]at haj⊢;have hlen:(gs.take (i+1)).length=i+1:=by rw[List.length_take];omega
   rcases Er.1 ha with rfl|hap
   .have hij:j=i:=by
     rcases Nat.lt_or_ge j i with k|k
     .have:=(List.pairwise_iff_getElem.1 hg.up) j i hj2.1 hi k a haj a heg
      omega
     .omega
    subst hij;refine⟨by rw[hlen],λb hb hnb hbg=>?_⟩;have hb2:b∉P:=λk=>hnb (Er.2 (.inr k))
    have:=hmin b hb hb2 hbg;have:b≠a:=λk=>hnb (Er.2 (.inl k))
    omega
   .obtain⟨q1,q2⟩:=h4 j hj2.1 a hap haj
    exact⟨by rw[hlen];omega,λb hb hnb hbg=>q2 b hb (λk=>hnb (Er.2 (.inr k))) hbg⟩
def Best(r:Nat->Int)(may:List Nat)(ok:List Nat->Prop)(g:List Nat):Prop:=g.Sublist may/\ok g/\∀h,h.Sublist may->ok h->hLt r h g=false
theorem Best.one{r:Nat->Int}{may:List Nat}{ok:List Nat->Prop}{g g':List Nat}(h:Best r may ok g)(h':Best r may ok g'):g=g' :=
 wW r (h'.2.2 g h.1 h.2.1) (h.2.2 g' h'.1 h'.2.1)
theorem pW{r:Nat->Int}{srv:List Nat->List Nat->Bool}{fit:List Nat->Bool}{ok sp:List Nat->Prop}{may:List Nat}{gs:List (List Nat)}{f:Nat}(hm:may.Pairwise (·<·))(hg:Grp r gs)(hmem:∀e,e∈may↔∃g∈gs,e∈g)(hf:may.length<=f)(hsp:∀l g,srv l g=true->sp l)(hsp0:sp [])(hok:∀l,ok l↔sp l/\fit l=true)(hs:∀h,h.Sublist may->ok h->∀Q all:List Nat,Q.Pairwise (·<·)->(∀e∈Q,e∈h)->(∀e∈h,e∈Q\/e∈all)->srv Q all=true) :
  (∀g,(Dy srv f [[]] gs).find? fit=some g->Best r may ok g)/\((Dy srv f [[]] gs).find? fit=none->∀h,h.Sublist may->¬ok h):=by
 have hin:∀h,h.Sublist may->ok h->h∈Dy srv f [[]] gs:=λh h1 h2 =>
  rD (hm.sublist h1) (λQ all q1 q2 _ q4=>hs h h1 h2 Q all q1 q2 q4) f (P:=[]) (by have:=h1.length_le;simp;omega) hg (by simp) List.Pairwise.nil (λe he=>by cases he) (λe he _=>(hmem e).1 (h1.subset he)) (λi hi a ha=>by cases ha)
 have hN:NdV r [] [[]] gs:=⟨λl hl=>by rw[List.mem_singleton.1 hl];rfl,λl hl=>by rw[List.mem_singleton.1 hl];exact List.Pairwise.nil,by simp,λa ha=>by cases ha⟩;have hord:=eA srv f hN hg;have hall:=fG (srv:=srv) (ok:=sp) hsp (U:=λe=>e∈may) f (ls:=[[]]) (gs:=gs) (λl hl=>by rw[List.mem_singleton.1 hl];exact⟨List.Pairwise.nil,λe he=>by(cases he),hsp0⟩) (λg hgg e he=>(hmem e).2 ⟨g,hgg,he⟩);refine⟨λg hgf=>?_,λhn h h1 h2=>?_⟩
 .have hge:=List.mem_of_find?_eq_some hgf
  have hfit:=List.find?_some hgf;obtain⟨q1,q2,q3⟩:=hall g hge;refine⟨Hy q1 hm q2,(hok g).2 ⟨q3,hfit⟩,λh h1 h2=>?_⟩;obtain⟨_,aa,bb,he,has⟩:=List.find?_eq_some_iff_append.1 hgf;have hh:=hin h h1 h2;rw[he]at hh hord;rcases List.mem_append.1 hh with k|k
  .have k1:=has h k
   rw[((hok h).1 h2).2]at k1;cases k1
  .rcases List.mem_cons.1 k with rfl|k
   .unfold hLt
    rw[(Cr Gy).irr,(Cr Ji).irr,Bool.and_false];rfl
   .exact(List.pairwise_cons.1 (List.pairwise_append.1 hord).2.1).1 h k
 .have:=List.find?_eq_none.1 hn h (hin h h1 h2)
  exact this ((hok h).1 h2).2
def Hq(may:List Nat)(s:Nat):List Nat:=((List.range may.length).filter λi=>s.testBit i).map λi=>may.getD i 0
theorem fW(may:List Nat)(s:Nat):(Hq may s).Sublist may:=by
 have h:may=(List.range may.length).map λi=>may.getD i 0:=by
  refine List.ext_getElem (by simp) λi h1 h2=>?_
  simp[List.getD_eq_getElem?_getD,gE h1]
 have h2:=(List.filter_sublist (p:=λi=>s.testBit i) (l:=List.range may.length)).map λi=>may.getD i 0
 rw[<-h]at h2;exact h2
theorem Xx(a:Nat)(l:List Nat)(s:Nat):Hq (a::l) s=(if s.testBit 0 then[a]else [])++Hq l (s/2):=by
 unfold Hq;rw[List.length_cons,List.range_succ_eq_map,List.filter_cons];have e:((List.map Nat.succ (List.range l.length)).filter λi=>s.testBit i).map (λi=>(a::l).getD i 0)=((List.range l.length).filter λi=>(s/2).testBit i).map λi=>l.getD i 0:=by
  rw[List.filter_map,List.map_map];have e2:((λi=>s.testBit i)∘Nat.succ)=λi=>(s/2).testBit i:=by
   funext i;simp[Nat.testBit_succ]
  rw[e2];refine List.map_congr_left λi _=>?_
  simp
 split
 case isTrue h=>rw[List.map_cons,e];rfl
 case isFalse h=>rw[e];rfl
theorem Qa:∀{may h:List Nat},h.Sublist may->∃s,s<2^may.length/\Hq may s=h
 |_,_,.slnil=>⟨0,by simp,rfl⟩
 |a::l,h,.cons _ hs=>by
  obtain⟨s,h1,h2⟩:=Qa hs;refine⟨2*s,by rw[List.length_cons,Nat.pow_succ];omega,?_⟩;rw[Xx,show 2*s/2=s by omega,h2,show(2*s).testBit 0=false by simp[Nat.testBit_zero]];rfl
 |a::l,_::h,.cons_cons _ hs=>by
  obtain⟨s,h1,h2⟩:=Qa hs;refine⟨2*s+1,by rw[List.length_cons,Nat.pow_succ];omega,?_⟩;rw[Xx,show(2*s+1)/2=s by omega,h2,show(2*s+1).testBit 0=true by simp[Nat.testBit_zero]];rfl
structure BestTo (r:Nat->Int) (may:List Nat) (ok:List Nat->Prop) (n:Nat) (b:List Nat) (found:Bool):Prop where
 no:found=false->b=[]/\∀s,s<n->¬ok (Hq may s)
 yes:found=true->(∃s,s<n/\b=Hq may s)/\ok b/\∀s,s<n->ok (Hq may s)->hLt r (Hq may s) b=false
theorem BestTo.all{r:Nat->Int}{may:List Nat}{ok:List Nat->Prop}{b:List Nat}{found:Bool}(h:BestTo r may ok (2^may.length) b found):(found=true->Best r may ok b)/\(found=false->b=[]/\∀h,h.Sublist may->¬ok h):=by
 refine⟨λe=>?_,λe=>⟨(h.no e).1,λg hg=>?_⟩⟩
 .obtain⟨⟨s,hs,rfl⟩,h2,h3⟩:=h.yes e
  refine⟨fW _ _,h2,λg hg hok=>?_⟩;obtain⟨t,ht,rfl⟩:=Qa hg;exact h3 t ht hok
 .obtain⟨t,ht,rfl⟩:=Qa hg
  exact(h.no e).2 t ht
theorem AK(r:Nat->Int){a b c:List Nat}(h1:hLt r b a=false)(h2:hLt r c b=false):hLt r c a=false:=by
 have TI:=Cr Gy;have TP:=Cr Ji;unfold hLt at *;rw[Bool.or_eq_false_iff]at *;have nt:∀{α:Type} [DecidableEq α] {lt:α->α->Bool} (T:Tot lt) {x y z:α},lt y x=false->lt z y=false->lt z x=false:=by
  intro α _ lt T x y z q1 q2
  cases e:lt z x with
  |false=>rfl
  |true =>
   cases k:lt x y with
   |true=>rw[T.tr _ _ _ e k]at q2;cases q2
   |false=>rw[T.tot _ _ k q1]at e;rw[e]at q2;cases q2
 refine⟨nt TI h1.1 h2.1,?_⟩;by_cases e:Bo r c=Bo r a
 .have h3:=h1.1
  have h4:=h2.1;rw[e]at h4;have e2:=TI.tot _ _ h3 h4;have q1:=h1.2;have q2:=h2.2;rw[decide_eq_true e2,Bool.true_and]at q1;rw[decide_eq_true (e.trans e2.symm),Bool.true_and]at q2;rw[nt TP q1 q2,Bool.and_false]
 .rw[decide_eq_false e];rfl
theorem BestTo.start(r:Nat->Int)(may:List Nat)(ok:List Nat->Prop):BestTo r may ok 0 [] false:=⟨λ_=>⟨rfl,λs hs=>by omega⟩,λh=>by cases h⟩
theorem BestTo.skip{r:Nat->Int}{may:List Nat}{ok:List Nat->Prop}{n:Nat}{b:List Nat}{found:Bool}(h:BestTo r may ok n b found)(hn:found=true/\hLt r (Hq may n) b=false\/¬ok (Hq may n)):BestTo r may ok (n+1) b found:=by
 refine⟨λe=>⟨(h.no e).1,λs hs=>?_⟩,λe=>?_⟩
 .by_cases q:s=n
  .subst q
   rcases hn with k|k
   .rw[e]at k;cases k.1
   .exact k
  .exact(h.no e).2 s (by omega)
 .obtain⟨⟨s,hs,rfl⟩,h2,h3⟩:=h.yes e
  refine⟨⟨s,by omega,rfl⟩,h2,λt ht hok=>?_⟩;by_cases q:t=n
  .subst q
   rcases hn with k|k
   .exact k.2
   .exact absurd hok k
  .exact h3 t (by omega) hok
theorem BestTo.take{r:Nat->Int}{may:List Nat}{ok:List Nat->Prop}{n:Nat}{b:List Nat}{found:Bool}(h:BestTo r may ok n b found)(hok:ok (Hq may n))(hl:found=true->hLt r b (Hq may n)=false):BestTo r may ok (n+1) (Hq may n) true:=by
 refine⟨λe=>(by cases e),λ_=>⟨⟨n,by omega,rfl⟩,hok,λs hs k=>?_⟩⟩;by_cases q:s=n
 .subst q
  unfold hLt;rw[(Cr Gy).irr,(Cr Ji).irr,Bool.and_false];rfl
 .cases found with
  |false=>exact absurd k ((h.no rfl).2 s (by omega))
  |true=>exact AK r (hl rfl) ((h.yes rfl).2.2 s (by omega) k)
end Go.Proofs.YtpidfnfilnkhkaaGreat
