import Derived.Recover
import Derived.Test.YtpidfnfilnkhkaaGreatVlo
import Derived.Sort.LotA
set_option maxHeartbeats 4000000
set_option maxRecDepth 100000
namespace Go.Proofs.YtpidfnfilnkhkaaGreat
open Go.RowKit Tryz
structure B2 (g hb:Nat) (w w':World):Prop where
 os:w'.os=w.os
 tape:w'.tape=w.tape
 output:w'.output=w.output
 size:w.heap.size<=w'.heap.size
 block:∀k,k<w.heap.size->k≠g->k≠hb->w'.heap[k]?=w.heap[k]?
theorem B2.of_below{g hb:Nat}{w w':World}(h:Below w.heap.size w w'):B2 g hb w w':=⟨h.os,h.tape,h.output,h.size,λk hk _ _=>h.block k hk⟩
theorem B2.trans{g hb:Nat}{a b c:World}(h:B2 g hb a b)(k:B2 g hb b c):B2 g hb a c:=⟨k.os.trans h.os,k.tape.trans h.tape,k.output.trans h.output,lT h.size k.size,λi hi h1 h2=>(k.block i (lL hi h.size) h1 h2).trans (h.block i hi h1 h2)⟩
theorem B2.grown{g hb:Nat}{a w w':World}(h:B2 g hb a w)(hg:w.grownBy w' (some g)):B2 g hb a w':=h.trans ⟨hg.os,hg.tape,hg.output,hg.size,λk hk h1 _=>hg.block k hk (λe=>h1 (Option.some.inj e))⟩
theorem B2.set{g hb:Nat}{a w:World}(h:B2 g hb a w){p:Nat}(hp:p=g\/p=hb)(o:Nat)(v:Value):B2 g hb a (w.setCell ⟨p,o,none⟩ v):=h.trans ⟨rfl,rfl,rfl,by simp,λk _ h1 h2=>Below.heap_setCell _ _ _ _ (λe=>by rcases hp with h|h<;>(rw[h]at e;first|exact h1 e|exact h2 e))⟩
theorem B2.drew{g hb:Nat}{a w:World}(h:B2 g hb a w):B2 g hb a w.drew:=⟨h.os,h.tape,h.output,h.size,h.block⟩
structure KpQ (G:Nat->Prop) (n₀:Nat) (w w':World):Prop where
 os:w'.os=w.os
 tape:w'.tape=w.tape
 output:w'.output=w.output
 size:w.heap.size<=w'.heap.size
 block:∀k,k<n₀->¬G k->w'.heap[k]?=w.heap[k]?
theorem KpQ.refl(G:Nat->Prop)(n₀:Nat)(w:World):KpQ G n₀ w w:=⟨rfl,rfl,rfl,Nat.le_refl _,λ_ _ _=>rfl⟩
theorem KpQ.trans{G:Nat->Prop}{n₀:Nat}{a b c:World}(h:KpQ G n₀ a b)(k:KpQ G n₀ b c):KpQ G n₀ a c :=
 ⟨k.os.trans h.os,k.tape.trans h.tape,k.output.trans h.output,lT h.size k.size,λi hi hp=>(k.block i hi hp).trans (h.block i hi hp)⟩
theorem KpQ.of_below{G:Nat->Prop}{n₀:Nat}{w w':World}(h:Below w.heap.size w w')(hn:n₀<=w.heap.size):KpQ G n₀ w w' :=
 ⟨h.os,h.tape,h.output,h.size,λk hk _=>h.block k (lL hk hn)⟩
theorem KpQ.grown{G:Nat->Prop}{n₀:Nat}{a w w':World}{row:Option Nat}(h:KpQ G n₀ a w)(hg:w.grownBy w' row)(hn:n₀<=w.heap.size)(hr:∀r,row=some r->n₀<=r\/G r):KpQ G n₀ a w' :=
 h.trans ⟨hg.os,hg.tape,hg.output,hg.size,λk hk hG=>hg.block k (by omega) (λe=>by rcases hr k e.symm with h|h;omega;exact hG h)⟩
theorem KpQ.putObj{G:Nat->Prop}{n₀:Nat}(W:World){l:Nat}(o':Obj)(hl:n₀<=l):KpQ G n₀ W (W.putObj l o') :=
 ⟨rfl,rfl,rfl,(grownBy_putObj' W l o').size,λk hk _=>World.putObj_heap_other (by omega)⟩
theorem YieldAt.wide{P:Program}{l m m':Nat}{args:Array Value}{W:World}{R:Ending->World->Prop}(h:YieldAt Fence.wide m P l args W R)(l':Nat):YieldAt (Fence.wide.inRound l') m' P l args W R:=by
 obtain⟨fn,tmps,assign,body,hy,hR⟩:=h;exact⟨fn,tmps,assign,body,hy,trivial,λc cs _=>hR.2 c cs (room_wide _)⟩
theorem Mg{P:Program}{l m n:Nat}{c:Code}{Q:Exit->Act->World->Prop}{a:Act}{w:World}(h:c.wpIn (Fence.wide.inRound l) m P Q a w):c.wpIn (Fence.wide.inRound l) n P Q a w :=
 λb k cs h1 h2 _=>h b k cs h1 h2 (λ_ h=>by cases h)
theorem YieldAt.anyQ{P:Program}{l m m':Nat}{args:Array Value}{W:World}{R:Ending->World->Prop}(h:YieldAt Fence.wide m P l args W R):YieldAt Fence.wide m' P l args W R:=by
 obtain⟨fn,tmps,assign,body,hy,hR⟩:=h;exact⟨fn,tmps,assign,body,hy,trivial,λc cs _=>hR.2 c cs (room_wide _)⟩
structure TL where
 l:List Nat
 a:OA
 c:Nat
abbrev TL.v(x:TL):Value:=.slice x.a x.l.length x.c
def TlOk(k:VC)(x:TL)(W:World):Prop:=SliceC IntC 1 k.L0 W x.a (plI x.l)/\(∀e∈x.l,e∈Bc k.x k.y k.b)/\x.l.length<=400
theorem TlOk.bt2{k:VC}{x:TL}{W W':World}(h:TlOk k x W)(ho:VOk k)(hb:Bt2 k.G k.m4 W W'):TlOk k x W':=⟨h.1.keep IntC.holds (hb.keeps ho.GL ho.mL) nL,h.2⟩
def AV(k:VC)(l:Nat)(J Jx:List TL->World->Prop):Prop:=∀pre x W1,J pre W1->TlOk k x W1->YieldAt Fence.wide 0 prog l #[x.v] W1 λe W'=>(e=.returned (.bool true)/\J (pre++[x]) W'/\Bt2 k.G k.m4 W1 W')\/(e=.returned (.bool false)/\Jx (pre++[x]) W')
structure JV (k:VC) (J Jx:List TL->World->Prop):Prop where
 vs:∀pre W,J pre W->VS k W
 go:∀pre A B,J pre A->Bt2 k.G k.m4 A B->VS k B->J pre B
 gx:∀pre A B,Jx pre A->Below A.heap.size A B->Jx pre B
def AN(k:VC)(gf:Nat)(lb:Array Value)(S Sp:List (List Nat)->Prop)(w:World):Prop :=
 ∀(l:Nat)(J Jx:List TL->World->Prop)(W:World),Below w.heap.size w W->JV k J Jx->AV k l J Jx->J [] W ->
  Calls prog gf (#[.func (.yield l) #[] #[]]++lb) W λe W'=>(∃v,e=.returned v)/\((∃xs:List TL,S (xs.map (·.l))/\J xs W')\/∃pre:List TL,Sp (pre.map (·.l))/\Jx pre W')
def CH(k:VC)(B:Nat)(I Ix:List TL->World->Prop)(xs:List TL)(W:World):Exit->Act->World->Prop
 |.normal,_,W'=>KeepsFrom B W W'/\Bt2 k.G k.m4 W W'/\I xs W'
 |.ret,_,W'=>KeepsFrom B W W'/\Ix xs W'
 |_,_,_=>False
theorem sV{k:VC}{x:TL}{W:World}{L:Nat}{o:Obj}(o':Obj)(h:TlOk k x W)(hl:W.heap[L]?=some o)(ho:o.isCells=false):TlOk k x (W.putObj L o') :=
 ⟨Fa h.1 (by simp) λb _ _ _ _ _ ⟨cs,t,f,q⟩=>World.putObj_heap_other (λe=>by subst e;rw[hl]at q;cases q;cases ho),h.2⟩
theorem pV{n:Nat}{g:Operand}{ps:Array Tmp}{assign body:Code}{Q:Exit->Act->World->Prop}{a:Act}{w:World}(k:VC)(ho:VOk k)(h0L:k.L0<=w.heap.size){gf:Nat}{lb:Array Value}(hg:a.eval g=.func (.func gf) #[] lb)(eg:∀args w,(callFunc gf args).run prog w=.ok (.enter gf args) w){S Sp:List (List Nat)->Prop}(hseq:AN k gf lb S Sp w)(hps:ps.size=1)(I Ix:List TL->World->Prop)(hI:OwnFrom w.heap.size I)(hIx:OwnFrom w.heap.size Ix)(hJ:JV k I Ix)(h0:I [] w)(Ax:TL->Act->World->Prop)(hAx:∀x a',OwnFrom w.heap.size (λ(_:Unit) W=>Ax x a' W))(hassign:∀(l:Nat) (pre:List TL) (x:TL) (W:World) (K':Act->World->Prop),I pre W->(∀a' W',KeepsFrom w.heap.size W W'->Bt2 k.G k.m4 W W'->I pre W'->Ax x a' W'->K' a' W') ->
   assign.wpIn (Fence.wide.inRound l) 5 prog (Exit.then K' (λ_ _ _=>False)) {tmps:=(ps.zip #[x.v]).foldl (λt (p,v)=>t.setIfInBounds p v) a.tmps,defers:=[]} W)(hbody:∀(l:Nat) (pre:List TL) (x:TL) (a':Act) (W:World),I pre W->Ax x a' W->TlOk k x W->body.wpIn (Fence.wide.inRound l) 5 prog (CH k w.heap.size I Ix (pre++[x]) W) a' W)(hdone:∀(D:Nat) (xs:List TL) (W:World),w.heap.size<=D->S (xs.map (·.l))->I xs W->W.heap[D]?=some (.deferred (some []))->Q .normal {a with defers:={target:=.collected D,args:=#[]}::a.defers} W)(hstop:∀(D:Nat) (pre:List TL) (W:World),w.heap.size<=D->Sp (pre.map (·.l))->Ix pre W->W.heap[D]?=some (.deferred (some []))->Code.ret.wpIn Fence.wide n prog Q {a with defers:={target:=.collected D,args:=#[]}::a.defers} W) :
  (Code.rangeFunc g ps assign body).wpIn Fence.wide n prog Q a w:=by
 have hgw:k.G<w.heap.size:=lL ho.GL h0L;have hhw:k.m4<w.heap.size:=lL ho.mL h0L;refine wpIn_rangeFunc λfn hfn=>?_
 rw[show Fence.wide.round=none from rfl];obtain⟨rec,hrec⟩:∃rec:LoopState->Option Code->Loop,rec=λst pe=>{state:=st,pending:=pe,fn,tmps:=a.tmps,params:=ps,assign,body,defers:=w.heap.size}:=⟨_,rfl⟩
 obtain⟨L,hL⟩:∃L,L=w.heap.size+1:=⟨_,rfl⟩;obtain⟨W1,hW1⟩:∃W1,W1=(w.alloc (.deferred (some []))).alloc (.loop (rec .ready none)):=⟨_,rfl⟩;have e1:W1.heap[L]?=some (.loop (rec .ready none)):=by
  have:=World.alloc_heap_new (w.alloc (.deferred (some []))) (.loop (rec .ready none));rw[hW1,hL]
  rwa [World.size_alloc]at this
 have e2:W1.heap[w.heap.size]?=some (.deferred (some [])):=by
  rw[hW1];exact(Below.heap_alloc _ _ _ (by simp)).trans (World.alloc_heap_new w _)
 have hb:Below w.heap.size w W1:=by rw[hW1];exact((Below.refl _ w).alloc nL _).alloc (by simp) _
 have hI1:I [] W1:=by rw[hW1];exact hI.alloc _ (hI.alloc _ h0)
 have put:∀{s:List TL} {W:World} {r:Loop} (o':Obj),I s W->W.heap[L]?=some (.loop r)->I s (W.putObj L o'):=λo' hi hl=>hI.putObj o' hi (by omega) hl rfl
 have putx:∀{s:List TL} {W:World} {r:Loop} (o':Obj),Ix s W->W.heap[L]?=some (.loop r)->Ix s (W.putObj L o'):=λo' hi hl=>hIx.putObj o' hi (by omega) hl rfl
 refine⟨L,[{target:=.collected w.heap.size,args:=#[]}],W1,{target:=.fn (.func gf) lb,args:=#[.func (.yield L) #[] #[]]},W1,gf,#[.func (.yield L) #[] #[]]++lb,W1,?_,?_,λ_ _=>trivial,?_,(λh=>by cases h),?_⟩
 .rw[hW1,hL,hrec];exact run_enterLoop_outer _ _ _ _ _
 .simp only[resolve,hg]
  simp[go_sem]
 .simp[invoke,go_sem,eg]
 refine callsIn_wide.2 ((hseq L (λpre W=>I pre W/\W.heap[L]?=some (.loop (rec .ready none))/\W.heap[w.heap.size]?=some (.deferred (some [])))
  (λpre W=>Ix pre W/\W.heap[L]?=some (.loop (rec .done (some .ret)))/\W.heap[w.heap.size]?=some (.deferred (some []))) W1 hb ⟨λpre W h=>hJ.vs pre W h.1,?_,?_⟩ ?_ ⟨hI1,e1,e2⟩).mono ?_)
 .rintro pre A B⟨h1,h2,h3⟩h4 h5
  exact⟨hJ.go _ _ _ h1 h4 h5,(h4.2.2 L (Array.getElem?_eq_some_iff.1 h2).1 (by omega) (by omega)).trans h2,(h4.2.2 _ (Array.getElem?_eq_some_iff.1 h3).1 (by omega) (by omega)).trans h3⟩
 .rintro pre A B⟨h1,h2,h3⟩h4
  exact⟨hJ.gx _ _ _ h1 h4,(h4.block L (Array.getElem?_eq_some_iff.1 h2).1).trans h2,(h4.block _ (Array.getElem?_eq_some_iff.1 h3).1).trans h3⟩
 .rintro pre x W⟨hi,hl,hk⟩htl
  have hy:=run_yield (P:=prog) (args:=#[x.v]) hl (by rw[hrec];exact hps.symm);rw[hrec]at hy;refine⟨fn,_,assign,body,hy,roundIn_of_wpIn hfn (Mg (m:=5) (hassign L pre x W _ hi ?_))⟩;clear hy;intro a' Wa ka kpa hia hax;have hla:=ka.same _ _ (by omega) hl rfl;have hka:=ka.same _ _ nL hk rfl;have hta:=htl.bt2 ho kpa;have hlt:L<Wa.heap.size:=(Array.getElem?_eq_some_iff.1 hla).1;refine⟨_,run_beginRound hla (by rw[hrec]),?_⟩;obtain⟨Wb,hWb⟩:∃Wb,Wb=Wa.putObj L (.loop {rec .ready none with state:=.busy}):=⟨_,rfl⟩;have hlb:Wb.heap[L]?=some (.loop {rec .ready none with state:=.busy}):=by rw[hWb];exact World.putObj_heap_same hlt
  have hkb:Wb.heap[w.heap.size]?=some (.deferred (some [])):=by rw[hWb];exact(World.putObj_heap_other (by omega)).trans hka
  have hlW:=iH hl;have hWbo:Wb.os=Wa.os/\Wb.tape=Wa.tape/\Wb.output=Wa.output/\Wa.heap.size<=Wb.heap.size/\∀k,k≠L->Wb.heap[k]?=Wa.heap[k]?:=by rw[hWb];exact⟨rfl,rfl,rfl,(grownBy_putObj' _ _ _).size,λk e=>World.putObj_heap_other e⟩
  have hib:I pre Wb:=by rw[hWb];exact put _ hia hla
  have haxb:Ax x a' Wb:=by rw[hWb];exact(hAx x a').putObj (s:=()) _ hax (by omega) hla rfl
  have htb:TlOk k x Wb:=by rw[hWb];exact sV _ hta hla rfl
  rw[<-hWb];clear hWb;refine wpIn_mono (Mg (m:=5) (hbody L pre x a' Wb hib haxb htb)) ?_;rintro e a3 W3 hp
  cases e with
  | normal =>
   obtain⟨k3,kp3,hi3⟩:=hp;have hl3:=k3.same _ _ (by omega) hlb rfl;have hk3:=k3.same _ _ nL hkb rfl;have hr:=run_endRound (P:=prog) none hl3;refine⟨_,_,hr,.inl ⟨rfl,⟨put _ hi3 hl3,?_,(World.putObj_heap_other (by omega)).trans hk3⟩,?_⟩⟩
   .rw[World.putObj_heap_same (Array.getElem?_eq_some_iff.1 hl3).1,hrec]
    rfl
   .refine⟨⟨kp3.1.1.trans (hWbo.1.trans kpa.1.1),kp3.1.2.1.trans (hWbo.2.1.trans kpa.1.2.1),kp3.1.2.2.trans (hWbo.2.2.1.trans kpa.1.2.2)⟩,lT kpa.2.1 (lT hWbo.2.2.2.1 (lT kp3.2.1 (grownBy_putObj' _ _ _).size)),λb hb1 hb2 hb3=>?_⟩
    by_cases e:b=L
    .subst e
     rw[World.putObj_heap_same (Array.getElem?_eq_some_iff.1 hl3).1,hlW.out,hrec];rfl
    .refine(World.putObj_heap_other e).trans ((kp3.2.2 b ?_ hb2 hb3).trans ((hWbo.2.2.2.2 b e).trans (kpa.2.2 b hb1 hb2 hb3)))
     exact lL hb1 (lT kpa.2.1 hWbo.2.2.2.1)
  |ret =>
   obtain⟨k3,hi3⟩:=hp;have hl3:=k3.same _ _ (by omega) hlb rfl;have hk3:=k3.same _ _ nL hkb rfl;have hr:=run_endRound (P:=prog) (some .ret) hl3;refine⟨_,_,hr,.inr ⟨rfl,putx _ hi3 hl3,?_,(World.putObj_heap_other (by omega)).trans hk3⟩⟩;rw[World.putObj_heap_same (Array.getElem?_eq_some_iff.1 hl3).1,hrec];rfl
  |exit id=>exact hp.elim
  |goto t=>exact hp.elim
  |panic ch=>exact hp.elim
  |outgrown=>exact hp.elim
 .rintro e W2 ⟨⟨v,rfl⟩,(⟨xs,hS,hi,hl,hk⟩|⟨pre,hSp,hi,hl,hk⟩)⟩
  .have hr:=run_endLoop (P:=prog) hl (by rw[hrec];simp)
   exact⟨none,_,by rw[hrec]at hr;exact hr,hdone _ xs _ nL hS (put _ hi hl) ((World.putObj_heap_other (by omega)).trans hk)⟩
  .have hr:=run_endLoop (P:=prog) hl (by rw[hrec];simp)
   exact⟨some .ret,_,by rw[hrec]at hr;exact hr,hstop _ pre _ nL hSp (putx _ hi hl) ((World.putObj_heap_other (by omega)).trans hk)⟩
abbrev Sx:Value:=.iface 148 (.agg #[])
theorem sI(xT:TypeId)(w:World):(Instr.typeAssert Sx xT 148 true).run prog w=.ok (.tuple #[.agg #[],.bool true]) w:=by
 unfold Instr.typeAssert;simp[Sem.run_bind,Result.andThen]
theorem xJ(xT:TypeId)(w:World):(Instr.typeAssert .nilIface xT 148 true).run prog w=.ok (.tuple #[.agg #[],.bool false]) w:=by
 unfold Instr.typeAssert;simp[Sem.run_bind,Tryz.zeroValue148,Result.andThen]
theorem bI(w:World) :
  CallsD prog 84 #[] (.panicking [{v:=Sx,recovered:=false}]) w λe u' w'=>e=.returned (.tuple #[])/\u'=.panicking [{v:=Sx,recovered:=true}]/\Below w.heap.size w w':=by
 have ha:=sI;refine callsD_of_wpS func84 rfl λc₀ cs hu=>?_
 apply wpS_seq;apply wpS_region;simp[wpOpsS,go_sem,recoverD,hu,ntmps84,Exit.thenS];refine wpS_of_wp ?_;simp only[Array.replicate_succ,Array.replicate_zero,List.push_toArray,List.nil_append,List.cons_append,List.setIfInBounds_toArray,List.set_cons_zero,List.set_cons_succ];go_wp2_with fail;simp[bodyPostS,results,Tryz.results84];exact(Below.refl _ _).alloc nL _
theorem jF(w:World) :
  CallsD prog 84 #[] .returning w λe u' w'=>e=.returned (.tuple #[])/\u'=.returning/\Below w.heap.size w w':=by
 have ha:=xJ;refine callsD_of_wpS func84 rfl λc₀ cs hu=>?_
 apply wpS_seq;apply wpS_region;simp[wpOpsS,go_sem,recoverD,hu,ntmps84,Exit.thenS];refine wpS_of_wp ?_;simp only[Array.replicate_succ,Array.replicate_zero,List.push_toArray,List.nil_append,List.cons_append,List.setIfInBounds_toArray,List.set_cons_zero,List.set_cons_succ];go_wp2_with fail;simp[bodyPostS,results,Tryz.results84];cases c₀
 cases hu
 exact⟨_,rfl,rfl,(Below.refl _ _).alloc nL _⟩
open Go.WideMaps Go.Maps Tryz
theorem jH{α:Type}{C:En α}{n lo:Nat}{w:World}{a:OA}{xs:List α}(h:SliceC C n lo w a xs)(k:Nat):SliceC C n lo w a (xs.take k):=by
 refine⟨lT (by rw[List.length_take];omega) h.1,?_⟩;rcases h.2 with rfl|⟨b,o,e,h1,h2,h3⟩
 .exact .inl (by simp)
 .refine .inr ⟨b,o,e,h1,h2,λj x hj=>h3 j x ?_⟩
  have hl:=Ac hj;rw[List.length_take]at hl;rw[List.getElem?_take,if_pos (by omega)]at hj;exact hj
theorem Yf(srv:List Nat->List Nat->Bool)(f:Nat)(ls gs:List (List Nat)):Dy srv (f+1) ls gs=ls++(List.range gs.length).flatMap λi=>Dy srv f (Gp srv ls (gs.take (i+1))) (gs.take (i+1)):=rfl
theorem eV(srv:List Nat->List Nat->Bool):∀(f:Nat)(gs:List (List Nat)),Dy srv f [] gs=[]
 |0,_=>rfl
 |f+1,gs=>by
  unfold Dy;rw[List.nil_append,List.flatMap_eq_nil_iff];intro i _;rw[show Gp srv [] (gs.take (i+1))=[] by unfold Gp El;simp];exact eV srv f _
def WkR(k:VC)(J Jx:List TL->World->Prop)(pre:List TL)(en:List (List Nat))(w:World)(e:Ending)(w':World):Prop :=
 (e=.returned (.tuple #[])/\∃xs:List TL,xs.map (·.l)=en/\J (pre++xs) w'/\Bt2 k.G k.m4 w w')\/(e=.panicked [{v:=Sx,recovered:=false}]/\∃xs:List TL,xs.map (·.l) <+: en/\Jx (pre++xs) w')
theorem qZ(k:VC)(ho:VOk k)(l:Nat)(J Jx:List TL->World->Prop)(hJ:JV k J Jx)(hY:AV k l J Jx)(hm:(Bc k.x k.y k.b).length<=10)(ag:OA)(ng cg:Nat):∀(f d:Nat)(pre:List TL)(ls gs:List (List Nat))(la:OA)(lc:Nat)(ga:OA)(gc:Nat)(W:World),J pre W->SliceC LstC 1 k.L0 W la ls->SliceC LstC 1 k.L0 W ga gs->(gs≠[]->∃gb,ga=some ⟨gb,0,none⟩)->gs.length<=gc/\gc<=maxLen->ls≠[]->(∀l∈ls,l.Pairwise (·<·)/\(∀e∈l,e∈Bc k.x k.y k.b)/\l.length=d)->(∀g∈gs,g≠[]/\g.Pairwise (·<·)/\∀e∈g,e∈Bc k.x k.y k.b)->gs.length<=10->gs.flatten.length<=100->d<=10->ls.length<=10^d->(Bc k.x k.y k.b).length<d+f ->
  Calls prog 85 #[.agg (Co k ag ng cg),.slice la ls.length lc,.slice ga gs.length gc,.func (.yield l) #[] #[]] W (WkR k J Jx pre (Dy (Ci k.x k.ci k.y k.b) f ls gs) W):=by
 intro f
 induction f with
 | zero =>
  intro d pre ls gs la lc ga gc W _ _ _ _ _ hne hlm _ _ _ _ _ hd
  exact absurd hd (by
   obtain⟨l,hl⟩:=List.exists_mem_of_ne_nil _ hne;obtain⟨q1,q2,q3⟩:=hlm l hl;have:=(Hy q1 (Jj k.x k.y k.b) q2).length_le
   omega)
 | succ f ih =>
  intro d pre ls gs la lc ga gc W h0 hl hg hga hgc hne hlm hgm hgl hfl hd10 hls hd;have hgc1:=hgc.1;have hl10:ls.length<=10000000000:=lT hls (lT (Nat.pow_le_pow_right (by omega) hd10) (by decide));have g1:=ho.GL;have g2:=ho.mL;have hL:=(hJ.vs _ _ h0).size ho;have hb0:=(Below.refl _ W).alloc nL (Obj.cells (Co k ag ng cg) 112);have HX:=iH (Blk.alloc W (Co k ag ng cg) 112);have HJ0:=iH (hJ.go _ _ _ h0 (Bt2.of_below hb0) ((hJ.vs _ _ h0).below ho hb0));have HB0:Hid (Bt2 k.G k.m4 W (W.alloc (Obj.cells (Co k ag ng cg) 112))):=Bt2.of_below hb0;have HL:=iH hl;have HG:=iH hg;have HLM:=iH hlm;have HGM:=iH hgm;have HIH:=iH @ih;have HY:=iH hY;have HGA:=iH hga;clear hl hg hlm hgm h0 hb0 ih hga;go_enter func85,ntmps85;go_upto_region 1 with fail;generalize W.alloc (Obj.cells (Co k ag ng cg) 112)=w0 at *
  go_wp2
  go_loopw [14] (λi wr=>∃(n:Nat)(xs:List TL),n<=ls.length/\i=.int .i64 n/\Hid (xs.map (·.l)=ls.take n)/\Hid (J (pre++xs) wr)/\Hid (Bt2 k.G k.m4 W wr)/\Hid (Blk W.heap.size (Co k ag ng cg) 112 wr)) (λi _=>ls.length-(intOf i).toNat)
  case atStart=>exact⟨0,[],zL,rfl,rfl,by show J (pre++[]) _;rw[List.append_nil];exact HJ0.out,HB0,HX⟩
  case round =>
   obtain⟨n,xs,hn,rfl,HXS,HJ,HB,HX1⟩:=hrel;by_cases hlt:n<ls.length
   .obtain⟨t,ht⟩:=gXe hlt
    have hkp:=HB.out.keeps g1 g2;obtain⟨lb,lo',rfl,_,_,ta,tc,q0,q1⟩:=(HL.out.keep LstC.holds hkp nL).at ht;simp only[Nat.mul_one,Nat.add_zero]at q0;obtain⟨m1,m2,m3⟩:=HLM.out t (List.mem_of_getElem? ht);obtain⟨fn,tmps,assign,body,hyy,hR⟩:=YieldAt.anyQ (m':=4) (HY _ ⟨t,ta,tc⟩ wr HJ ⟨q1,m2,by show t.length<=400;omega⟩);dsimp only[TL.v]at hyy;have hwl:W.heap.size<wr.heap.size:=HX1.out.lt
    have hR':=hR.mono (R':=λe W9=>∃q,e=.returned (.bool q)/\Hid ((q=true/\J (pre++xs++[⟨t,ta,tc⟩]) W9/\Bt2 k.G k.m4 wr W9)\/(q=false/\Jx (pre++xs++[⟨t,ta,tc⟩]) W9))) (by
     rintro e W9 (⟨k1,k2,k3⟩|⟨k1,k2⟩)
     .exact⟨true,k1,.inl ⟨rfl,k2,k3⟩⟩
     .exact⟨false,k1,.inr ⟨rfl,k2⟩⟩)
    have HT:Hid ((xs++[(⟨t,ta,tc⟩:TL)]).map (·.l)=ls.take (n+1)):=by show _=_;rw[List.map_append,HXS.out,List.take_add_one,ht];rfl
    clear hR m1 m2 m3 q1 ht HY HXS HIH hkp;refine(wpIn_wide (n:=5)).1 ?_
    gi_wp2_with (refine hR'.mono ?_;rintro e W9⟨q,rfl,hq9⟩;cases q)
    .have HQ:Hid (Jx (pre++xs++[⟨t,ta,tc⟩]) W9):=by
      rcases hq9.out with h|h
      .cases h.1
      .exact h.2
     refine⟨rfl,Or.inr ⟨rfl,xs++[⟨t,ta,tc⟩],?_,by rw[<-List.append_assoc];exact HQ.out⟩⟩;rw[HT.out,Yf];exact(List.take_prefix _ _).trans (List.prefix_append _ _)
    .have HQ:Hid (J (pre++xs++[⟨t,ta,tc⟩]) W9/\Bt2 k.G k.m4 wr W9):=by
      rcases hq9.out with h|h
      .exact h.2
      .cases h.1
     refine⟨⟨n+1,xs++[⟨t,ta,tc⟩],by omega,by go_num,HT,by show J _ _;rw[<-List.append_assoc];exact HQ.out.1,HB.out.trans HQ.out.2,(HQ.out.2.2.2 W.heap.size hwl (by omega) (by omega)).trans HX1⟩,?_⟩;simp only[intOf];omega
   ·have hne2:n=ls.length:=by omega
    subst hne2;rw[List.take_length]at HXS;clear HY
    go_wp2
    go_loopw [27] (λi wr=>∃(n:Nat)(ys:List TL),n<=gs.length/\i=.int .i64 n/\Hid (ys.map (·.l)=(List.range n).flatMap λi=>Dy (Ci k.x k.ci k.y k.b) f (Gp (Ci k.x k.ci k.y k.b) ls (gs.take (i+1))) (gs.take (i+1)))/\Hid (J (pre++xs++ys) wr)/\Hid (Bt2 k.G k.m4 W wr)/\Hid (Blk W.heap.size (Co k ag ng cg) 112 wr)) (λi _=>gs.length-(intOf i).toNat)
    case atStart=>exact⟨0,[],zL,rfl,rfl,by show J (pre++xs++[]) _;rw[List.append_nil];exact HJ.out,HB,HX1⟩
    case round =>
     clear HJ HB HX1 hlt;obtain⟨n,ys,hn,rfl,HYS,HJ,HB,HX1⟩:=hrel;by_cases hlt:n<gs.length
     .obtain⟨gb,rfl⟩:=HGA.out (λe=>by rw[e]at hlt;cases hlt)
      obtain⟨last,hgg⟩:∃g,gs[n]?=some g:=⟨gs[n],gE hlt⟩;have hTL:(gs.take (n+1)).length=n+1:=by rw[List.length_take];omega
      have hTm:∀g∈(gs.take (n+1)),g∈gs:=λg hg=>List.mem_of_mem_take hg
      have hlast:(gs.take (n+1)).getLast?.getD []=last:=by rw[List.getLast?_eq_getElem?,hTL,Nat.add_sub_cancel,List.getElem?_take,if_pos (by omega),hgg];rfl
      obtain⟨l1,l2,l3⟩:=HGM.out last (List.mem_of_getElem? hgg);have hl10l:last.length<=10:=lT (Hy l2 (Jj k.x k.y k.b) l3).length_le hm;have hfl2:(gs.take (n+1)).flatten.length<=100:=by
       have h9:=congrArg List.length (congrArg List.flatten (List.take_append_drop (n+1) gs));rw[List.flatten_append,List.length_append]at h9;omega
      have HTK:=iH (jH (HG) (n+1));have HQM:Hid (∀q∈Gp (Ci k.x k.ci k.y k.b) ls (gs.take (n+1)),q.Pairwise (·<·)/\(∀e∈q,e∈Bc k.x k.y k.b)/\q.length=d+1):=λq hq=>by
       obtain⟨g,hg1,e,he,rfl,_⟩:=Py.1 hq;obtain⟨m1,m2,m3⟩:=HLM.out g hg1;rw[hlast]at he;have he2:e∈last:=List.mem_reverse.1 ((List.takeWhile_sublist _).subset he);have hne:e∉g:=by
        have h1:=List.all_eq_true.1 (List.all_takeWhile (l:=last.reverse) (p:=λe=>!g.contains e)) e he;simpa using h1
       exact⟨Mu m1 hne,λb hb=>(Er.1 hb).elim (λq=>by rw[q];exact l3 e he2) (m2 b),by rw[(Fz e g).length_eq,List.length_cons,m3]⟩
      have HQL:Hid ((Gp (Ci k.x k.ci k.y k.b) ls (gs.take (n+1))).length<=10^(d+1)):=by
       show _<=_
       rw[mN,Nat.pow_succ];have q1:=Ui (Ci k.x k.ci k.y k.b) ls (gs.take (n+1));rw[hlast]at q1;exact lT q1 (Nat.mul_le_mul hls hl10l)
      obtain⟨q,hq⟩:∃q,Gp (Ci k.x k.ci k.y k.b) ls (gs.take (n+1))=q:=⟨_,rfl⟩;have HEN:Hid ((List.range (n+1)).flatMap (λi=>Dy (Ci k.x k.ci k.y k.b) f (Gp (Ci k.x k.ci k.y k.b) ls (gs.take (i+1))) (gs.take (i+1)))=(List.range n).flatMap (λi=>Dy (Ci k.x k.ci k.y k.b) f (Gp (Ci k.x k.ci k.y k.b) ls (gs.take (i+1))) (gs.take (i+1)))++Dy (Ci k.x k.ci k.y k.b) f q (gs.take (n+1))):=by
       show _=_
       rw[List.range_succ,List.flatMap_append,<-hq];simp
      rw[hq]at HQM HQL;have HQ:=iH hq;clear hgg hlast l1 l2 l3 hq;go_upto_region 10 with fail;refine wp_region_held_drew (S:=λwy=>Blk W.heap.size (Co k ag ng cg) 112 wy) (by kernel_rfl) HX1.out.drew (λhS=>?_);have hdr:Below wr.heap.size wr wr.drew:=(Below.refl _ _).drew;replace HJ:=iH (hJ.go _ _ _ HJ (Bt2.of_below hdr) ((hJ.vs _ _ HJ).below ho hdr));replace HB:=iH (HB.out.trans (Bt2.of_below hdr));replace HX1:=iH HX1.out.drew;clear hdr;generalize wr.drew=wd at *;refine tk 0 ⟨some 30,_,_,_,_,none⟩ (.agg (Co k ag ng cg)) rfl (yieldsIf_load_mid (by rfl) _ _ rfl W.heap.size 0 rfl (Co k ag ng cg).toList _ (λ_ h=>h.rangeA) underlying112 rfl Li) hS ?_;refine tz 1 31 (.slice la ls.length lc) ?_;refine tz 2 32 (.slice (some ⟨gb,0,none⟩) gs.length gc) ?_;refine tz 3 33 (.int .i64 ((n:Nat):Int)) ?_;refine ty 4 ⟨some 34,_,_,_,_,none⟩ (.int .i64 ((n:Nat)+1:Int)) ?_ ?_
      .intro wy hy
       clear hy;go_simp;simp[IntKind.wrap,IntKind.bits,IntKind.signed];omega
      refine ty 5 ⟨some 35,_,_,_,_,none⟩ (.slice (some ⟨gb,0,none⟩) (n+1) gc) ?_ ?_
      .intro wy hy
       clear hy;go_simp;intro h;exact absurd (h (by omega)) (by omega)
      have hcl:=kG k ho ls (gs.take (n+1)) la lc gb gc ag ng cg wd (hJ.vs _ _ HJ) (HL.out.keep LstC.holds (HB.out.keeps g1 g2) nL) (HTK.out.keep LstC.holds (HB.out.keeps g1 g2) nL) (λe=>by rw[e]at hTL;cases hTL) (λg hg=>(HGM g (hTm g hg)).1) (λt ht=>by obtain⟨m1,m2,m3⟩:=HLM.out t ht;exact⟨m1,m2,by omega⟩) (λg hg=>by obtain⟨m1,m2,m3⟩:=HGM.out g (hTm g hg);exact⟨m3,by have:=(Hy m2 (Jj k.x k.y k.b) m3).length_le;omega⟩) hl10 (by omega) (by omega);rw[hTL,HQ.out]at hcl;refine rd1 6 ⟨some 36,_,_,_,_,none⟩ rfl (λKK hKK=>?_);go_simp;refine hcl.mono ?_;rintro e w2⟨a2,c2,rfl,hq2,hS2,hb2⟩;clear hcl;have HX2:Hid (Blk W.heap.size (Co k ag ng cg) 112 w2):=(hb2.2.2 W.heap.size HX1.out.lt (by omega) (by omega)).trans HX1;have HJ2:=iH (hJ.go _ _ _ HJ hb2 hS2);have HB2:=iH (HB.out.trans hb2);have HQ2:=iH hq2;refine hKK.out _ _ HX2 (λhS=>?_);clear hKK KK hq2 hS2 hb2 HJ HB HX1;refine tz 7 11 (.slice a2 q.length c2) ?_;refine td ?_;clear hS;by_cases hqe:q=[]
      .subst hqe
       have HNE:Hid (Dy (Ci k.x k.ci k.y k.b) f [] (gs.take (n+1))=[]):=eV _ f _
       go_wp2
       go_roundw
       case rel=>exact⟨n+1,ys,by omega,by go_num,by show _=_;rw[HEN.out,HNE.out,List.append_nil];exact HYS.out,HJ2,HB2,HX2⟩
       case measure=>simp[intOf];omega
      .have hqp:0<q.length:=List.length_pos_iff.2 hqe
       have hq64:q.length<=1000000000000:=lT HQL (lT (Nat.pow_le_pow_right (by omega) (by omega:d+1<=11)) (by decide));go_upto_region 12 with fail;refine wp_region_held_drew (S:=λwy=>Blk W.heap.size (Co k ag ng cg) 112 wy) (by kernel_rfl) HX2.out.drew (λhS=>?_);have hdr:Below w2.heap.size w2 w2.drew:=(Below.refl _ _).drew;replace HJ2:=iH (hJ.go _ _ _ HJ2 (Bt2.of_below hdr) ((hJ.vs _ _ HJ2).below ho hdr));replace HB2:=iH (HB2.out.trans (Bt2.of_below hdr));replace HX2:=iH HX2.out.drew;replace HQ2:=qSl LstC.holds HQ2 hdr;clear hdr;generalize w2.drew=we at *;refine tk 0 ⟨some 40,_,_,_,_,none⟩ (.agg (Co k ag ng cg)) rfl (yieldsIf_load_mid (by rfl) _ _ rfl W.heap.size 0 rfl (Co k ag ng cg).toList _ (λ_ h=>h.rangeA) underlying112 rfl Li) hS ?_;refine tz 1 41 (.slice a2 q.length c2) ?_;refine tz 2 42 (.slice (some ⟨gb,0,none⟩) gs.length gc) ?_;refine tz 3 43 (.int .i64 ((n:Nat):Int)) ?_;refine ty 4 ⟨some 44,_,_,_,_,none⟩ (.int .i64 ((n:Nat)+1:Int)) ?_ ?_
       .intro wy hy
        clear hy;go_simp;simp[IntKind.wrap,IntKind.bits,IntKind.signed];omega
       refine ty 5 ⟨some 45,_,_,_,_,none⟩ (.slice (some ⟨gb,0,none⟩) (n+1) gc) ?_ ?_
       .intro wy hy
        clear hy;go_simp;intro h;exact absurd (h (by omega)) (by omega)
       refine tz 6 46 (.func (.yield l) #[] #[]) ?_;have hq0:∃t,t∈q:=List.exists_mem_of_ne_nil _ hqe;obtain⟨t0,ht0⟩:=hq0;have hd9:d+1<=10:=by
        obtain⟨m1,m2,m3⟩:=HQM.out t0 ht0;have:=(Hy m1 (Jj k.x k.y k.b) m2).length_le;omega
       clear ht0;have hcl:=HIH.out (d+1) (pre++xs++ys) q (gs.take (n+1)) a2 c2 (some ⟨gb,0,none⟩) gc we HJ2 HQ2 (HTK.out.keep LstC.holds (HB2.out.keeps g1 g2) nL) (λ_=>⟨gb,rfl⟩) ⟨by omega,hgc.2⟩ hqe HQM (λg hg=>HGM.out g (hTm g hg)) (by omega) hfl2 hd9 HQL (by omega);rw[hTL]at hcl;refine rd1 7 ⟨some 47,_,_,_,_,none⟩ rfl (λKK hKK=>?_);go_simp;refine hcl.mono ?_;rintro e w4 (⟨rfl,zs,hz,hJ4,hb4⟩|⟨rfl,zs,hz,hJ4⟩)
       .clear hcl
        have HX4:Hid (Blk W.heap.size (Co k ag ng cg) 112 w4):=(hb4.2.2 W.heap.size HX2.out.lt (by omega) (by omega)).trans HX2;have HJ4:=iH hJ4;have HB4:=iH (HB2.out.trans hb4);have HZ:=iH hz;refine hKK.out _ _ HX4 (λhS=>?_);clear hKK KK hJ4 hb4 hz HJ2 HB2 HX2;refine td ?_;clear hS
        go_wp2
        go_roundw
        case rel=>exact⟨n+1,ys++zs,by omega,by go_num,by show _=_;rw[HEN.out,List.map_append,HYS.out,HZ.out],by show J _ _;rw[<-List.append_assoc];exact HJ4.out,HB4,HX4⟩
        case measure=>simp[intOf];omega
       .refine⟨rfl,Or.inr ⟨rfl,xs++(ys++zs),?_,by have h9:=hJ4;simp only[List.append_assoc]at h9;exact h9⟩⟩
        rw[List.map_append,HXS.out,List.map_append,HYS.out,Yf,List.prefix_append_right_inj];refine List.IsPrefix.trans ((List.prefix_append_right_inj _).2 hz) ?_;rw[<-HEN.out];have h9:List.range gs.length=List.range (n+1)++List.range' (n+1) (gs.length-(n+1)):=by
         rw[List.range_eq_range',List.range_eq_range'];have:=List.range'_append_1 (s:=0) (m:=n+1) (n:=gs.length-(n+1));rw[Nat.zero_add,show n+1+(gs.length-(n+1))=gs.length by omega]at this;exact this.symm
        rw[h9,List.flatMap_append];exact List.prefix_append _ _
     .have hne3:n=gs.length:=by omega
      subst hne3;go_wp2_with fail
      go_end0
      refine Or.inl ⟨rfl,xs++ys,?_,by rw[<-List.append_assoc];exact HJ.out,HB⟩;rw[List.map_append,HXS.out,HYS.out];rfl
theorem nZ(k:VC)(ag:OA)(ng cg:Nat)(w:World) :
  Calls prog 56 #[.agg (Co k ag ng cg)] w λe w'=>e=.returned (.func (.func 83) #[] #[.pointer (some ⟨w.heap.size,0,none⟩)])/\w'=w.alloc (Obj.cells (Co k ag ng cg) 112):=by
 go_enter func56,ntmps56
 go_wp2
 go_ret;exact⟨rfl,rfl⟩
theorem oT(k:VC)(ho:VOk k)(hm:(Bc k.x k.y k.b).length<=10)(gs:List (List Nat))(ag:OA)(cg Cb:Nat)(w:World)(hC:Blk Cb (Co k ag gs.length cg) 112 w)(hg:SliceC LstC 1 k.L0 w ag gs)(hga:gs≠[]->∃gb,ag=some ⟨gb,0,none⟩)(hgc:gs.length<=cg/\cg<=maxLen)(hgm:∀g∈gs,g≠[]/\g.Pairwise (·<·)/\∀e∈g,e∈Bc k.x k.y k.b)(hgl:gs.length<=10)(hfl:gs.flatten.length<=100)(hL:k.L0<=w.heap.size) :
  AN k 83 #[.pointer (some ⟨Cb,0,none⟩)] (λls=>ls=Dy (Ci k.x k.ci k.y k.b) ((Bc k.x k.y k.b).length+1) [[]] gs) (λls=>ls <+: Dy (Ci k.x k.ci k.y k.b) ((Bc k.x k.y k.b).length+1) [[]] gs) w:=by
 intro l J Jx W hb hJ hY h0;have HJJ:=iH hJ;have HJ:=iH h0;have HX:=iH (hC.below hb hC.lt);have HG:=iH (hg.below LstC.holds hb nL);have HY:=iH hY;have HGA:=iH hga;have HGM:=iH hgm;have HK:=iH ho;have hWL:k.L0<=W.heap.size:=lT hL hb.size;have g1:=ho.GL;have g2:=ho.mL;clear hC hg hb hY h0 hJ hga hgm ho;have hmf:∀(fn:Fn)(first cap:Array Value)(w:World),(Instr.makeFunc fn first cap).run prog w=.ok (.func fn first cap) w:=λ_ _ _ _=>rfl
 show Calls prog 83 #[.func (.yield l) #[] #[],.pointer (some ⟨Cb,0,none⟩)] W _
 have hCb:Cb<W.heap.size:=HX.out.lt;have r1:W.cell? ⟨Cb,24,none⟩=some (.slice ag gs.length cg):=HX.out.cell rfl
 go_enter_defers func83,ntmps83
 go_wp2_with(first|(refine wpList_load_mid rfl 112 _ rfl Cb 0 (by first|rfl|(simp[go_sem];done)) (Co k ag gs.length cg).toList _ HX.out.rangeA underlying112 rfl Li ?_));have hal:=(Below.refl _ W).alloc nL (Obj.cells #[.slice none 0 0] 68);have HB:=Blk.alloc W #[.slice none 0 0] 68;have hls:SliceC LstC 1 k.L0 (W.alloc (Obj.cells #[.slice none 0 0] 68)) (some ⟨W.heap.size,0,none⟩) [[]]:=by
  refine⟨by unfold maxLen;simp,.inr ⟨W.heap.size,0,rfl,⟨hWL,λ_ p=>HB.frozen p⟩,HB.lt,λj x hj=>?_⟩⟩;have hj1:=Ac hj;have hj0:j=0:=by simpa using hj1
  subst hj0;cases hj
  exact⟨none,0,HB.cell rfl,SliceC.nil⟩
 have hcl:=qZ k HK l J Jx HJJ HY hm ag gs.length cg ((Bc k.x k.y k.b).length+1) 0 [] [[]] gs (some ⟨W.heap.size,0,none⟩) 1 ag cg _ (HJJ.out.go _ _ _ HJ (Bt2.of_below hal) ((HJJ.out.vs _ _ HJ).below HK hal)) hls (HG.out.below LstC.holds hal nL) HGA hgc (by simp) (λt ht=>by rw[List.mem_singleton.1 ht];exact⟨List.Pairwise.nil,λe he=>(by cases he),rfl⟩) HGM hgl hfl (by omega) (by simp) (by omega);rw[show([[]]:List (List Nat)).length=1 from rfl]at hcl;refine hcl.mono ?_;clear hcl;rintro e W9 (⟨rfl,xs,hx,hj,hb9⟩|⟨rfl,xs,hx,hj⟩)
 .have HX9:=iH hx
  have HJ9:=iH hj;clear hx hj hb9 hls HB hal;go_wp2_with fail;refine leaves_cons (f:=84) (args:=#[]) (by simp) (by simp[go_sem]) ?_;refine(jF W9).mono ?_;rintro e u' w2⟨rfl,rfl,hb2⟩;exact⟨_,results_none rfl _ _ _,⟨_,rfl⟩,.inl ⟨xs,HX9,HJJ.out.go _ _ _ HJ9 (Bt2.of_below hb2) ((HJJ.out.vs _ _ HJ9).below HK hb2)⟩⟩
 .have HX9:=iH hx
  have HJ9:=iH hj;clear hx hj hls HB hal;refine leaves_cons (f:=84) (args:=#[]) (by simp) (by simp[go_sem]) ?_;refine(bI W9).mono ?_;rintro e u' w2⟨rfl,rfl,hb2⟩;exact⟨_,results_none rfl _ _ _,⟨_,rfl⟩,.inr ⟨xs,HX9,HJJ.out.gx _ _ _ HJ9 hb2⟩⟩
structure VPre (k:VC):Prop where
 pG:k.p≠k.G
 lB:k.lo<=k.B
 LW:k.L0=k.W0.heap.size
 n1:∀w',Bt2 k.G k.m4 k.W0 w'->SliceC BrtC 6 k.lo w' k.a1 k.x.berths
 n2:SliceC SvcC 2 k.lo k.W0 k.a2 k.x.services
 hv:Au k.x=true
 hy:k.x.copies[k.ci]?=some k.y
 hat:k.y.at_=⟨#[]⟩
 hb:k.x.berths[k.bi]?=some k.b
 sz:SzC k.x.copies
 fm:FoundM k.p k.m1 k.m2 k.m3 k.m4 (k.y.select,k.bi) k.x k.a1 k.c1 k.a2 k.c2 (some ⟨k.G,0,none⟩) k.q k.W0
 ow:OwnCT k.lo k.B k.W0 (.slice (some ⟨k.G,0,none⟩) k.x.copies.length k.q) k.x.copies
def VC.at(k:VC)(gp rb rc:Nat)(is:List Int):VC:={k with gp:=gp,rb:=rb,rc:=rc,is:=is}
theorem VPre.ok{k:VC}(h:VPre k){gp rb rc:Nat}{is:List Int}(sp:Ti k.x k.x.copies.length is)(gL:k.L0<=gp)(rL:k.L0<=rb):VOk (k.at gp rb rc is) where
 pG:=h.pG
 lB:=h.lB
 GL:=by show k.G<k.L0;rw[h.LW];exact h.ow.lt
 mL:=by show k.m4<k.L0;rw[h.LW];exact h.fm.memo.lt
 pL:=by show k.p<k.L0;rw[h.LW];exact h.fm.2.1
 LW:=h.LW
 n1:=h.n1
 hv:=h.hv
 hy:=h.hy
 hat:=h.hat
 hb:=h.hb
 sz:=h.sz
 sp:=sp
 gL:=gL
 rL:=rL
 ml:=by
  show k.m1<k.L0/\k.m2<k.L0/\k.m3<k.L0
  rw[h.LW];exact⟨h.fm.2.2.1.lt,h.fm.2.2.2.1.lt,h.fm.2.2.2.2.1.lt⟩
structure GrpAt (k:VC) (gs:List (List Nat)) (ag:OA) (cg:Nat) (w:World):Prop where
 sl:SliceC LstC 1 k.L0 w ag gs
 ad:gs≠[]->∃gb,ag=some ⟨gb,0,none⟩
 cp:gs.length<=cg/\cg<=maxLen
 gr:Grp (rkV k.x) gs
 mem:∀e,e∈Bc k.x k.y k.b↔∃g∈gs,e∈g
theorem Zm{r:Nat->Int}{gs:List (List Nat)}(hg:Grp r gs):gs.flatten.Nodup/\gs.length<=gs.flatten.length:=by
 induction gs with
 |nil=>exact⟨List.nodup_nil,Nat.le_refl _⟩
 | cons g gs ih =>
  obtain⟨i1,i2⟩:=ih ⟨λa h=>hg.ne a (List.mem_cons_of_mem _ h),λa h=>hg.asc a (List.mem_cons_of_mem _ h),λa h=>hg.one a (List.mem_cons_of_mem _ h),(List.pairwise_cons.1 hg.up).2⟩;have hu:=(List.pairwise_cons.1 hg.up).1;have hn:=List.length_pos_iff.2 (hg.ne g List.mem_cons_self);refine⟨?_,?_⟩
  .rw[List.flatten_cons,List.nodup_append]
   refine⟨(hg.asc g List.mem_cons_self).imp (λh=>Nat.ne_of_lt h),i1,λa ha b hb e=>?_⟩;subst e;obtain⟨h,hh,hah⟩:=List.mem_flatten.1 hb;have:=hu h hh a ha a hah;omega
  .rw[List.flatten_cons,List.length_append,List.length_cons]
   omega
theorem fN:∀{l m:List Nat},l.Nodup->(∀e∈l,e∈m)->l.length<=m.length
 |[],_,_,_=>zL
 |a::l,m,h,hs=>by
  rw[List.nodup_cons]at h;have h1:=fN (m:=m.erase a) h.2 λe he=>(List.mem_erase_of_ne (λq=>h.1 (by rw[<-q];exact he))).2 (hs e (List.mem_cons_of_mem _ he))
  have h2:=hs a List.mem_cons_self;rw[List.length_erase_of_mem h2]at h1;have:=List.length_pos_of_mem h2;rw[List.length_cons];omega
theorem GrpAt.few{k:VC}{gs:List (List Nat)}{ag:OA}{cg:Nat}{w:World}(h:GrpAt k gs ag cg w)(hm:(Bc k.x k.y k.b).length<=10):gs.length<=10/\gs.flatten.length<=100:=by
 obtain⟨h1,h2⟩:=Zm h.gr;have h3:gs.flatten.length<=(Bc k.x k.y k.b).length:=by
  refine fN h1 λe he=>?_
  obtain⟨g,hg,heg⟩:=List.mem_flatten.1 he;exact(h.mem e).2 ⟨g,hg,heg⟩
 omega
theorem GrpAt.ok{k:VC}{gs:List (List Nat)}{ag:OA}{cg:Nat}{w:World}(h:GrpAt k gs ag cg w):∀g∈gs,g≠[]/\g.Pairwise (·<·)/\∀e∈g,e∈Bc k.x k.y k.b:=λg hg=>⟨h.gr.ne g hg,h.gr.asc g hg,λe he=>(h.mem e).2 ⟨g,hg,he⟩⟩
structure BF (k:VC) (gp rb rc:Nat) (is:List Int) (gs:List (List Nat)) (ag:OA) (cg:Nat) (w:World):Prop where
 sp:Ti k.x k.x.copies.length is
 gL:k.L0<=gp
 rL:k.L0<=rb
 vs:VS (k.at gp rb rc is) w
 gs:GrpAt k gs ag cg w
 lo:k.L0<=w.heap.size
section
variable {α:Type} [Inhabited α] {lt lt':α->α->Bool}
def AgrN(lt lt':α->α->Bool)(n:Nat)(d:Array α):Prop:=∀m,n<=m->m<d.size->∀k,k<m->lt d[m]! d[k]! = lt' d[m]! d[k]!
theorem AgrN.swp{n i j:Nat}{d:Array α}(h:AgrN lt lt' n d)(hi:i<n)(hj:j<n)(hn:n<=d.size):AgrN lt lt' n (Sort.swp d i j):=by
 intro m h1 h2 k h3;rw[Sort.swp_size]at h2;rw[Sort.swp_get d (by omega) (by omega) m,Sort.swp_get d (by omega) (by omega) k];rw[if_neg (by omega),if_neg (by omega)]
 split
 .exact h m h1 h2 _ (by omega)
 .split
  .exact h m h1 h2 _ (by omega)
  .exact h m h1 h2 k h3
theorem gB{i:Nat}:∀(j:Nat)(d:Array α),j<=i->i<d.size->AgrN lt lt' (i+1) d->(∀k,k<j->lt d[j]! d[k]! = lt' d[j]! d[k]!)->Sort.insInner lt 0 j d=Sort.insInner lt' 0 j d/\AgrN lt lt' (i+1) (Sort.insInner lt 0 j d)/\(Sort.insInner lt 0 j d).size=d.size
 |0,d,_,_,hA,_=>⟨rfl,hA,rfl⟩
 | j+1,d,hj,hi,hA,hk=>by
  have e:=hk j (by omega);unfold Sort.insInner;rw[<-e]
  split
  .have ih:=gB (i:=i) j (Sort.swp d (j+1) j) (by omega) (by rw[Sort.swp_size];exact hi) (hA.swp (by omega) (by omega) (by omega)) (λk h=>by
    rw[Sort.swp_right d (j+1) j (by omega),Sort.swp_other d (j+1) j k (by omega) (by omega)]
    exact hk k (by omega))
   exact⟨ih.1,ih.2.1,ih.2.2.trans (Sort.swp_size _ _ _)⟩
  .exact⟨rfl,hA,rfl⟩
theorem fQ{b:Nat}:∀(n i:Nat)(d:Array α),b-i=n->b<=d.size->AgrN lt lt' i d->Sort.insOuter lt 0 b i d=Sort.insOuter lt' 0 b i d
 |0,i,d,hn,_,_=>by
  unfold Sort.insOuter;rw[if_neg (by omega),if_neg (by omega)]
 |n+1,i,d,hn,hb,hA=>by
  have h1:=gB (lt:=lt) (lt':=lt') (i:=i) i d nL (by omega) (λm h1 h2 k h3=>hA m (by omega) h2 k h3) (λk hk=>hA i nL (by omega) k hk);have e1:∀l:α->α->Bool,Sort.insOuter l 0 b i d=Sort.insOuter l 0 b (i+1) (Sort.insInner l 0 i d):=λl=>by rw[Sort.insOuter,if_pos (by omega)]
  rw[e1 lt,e1 lt',<-h1.1];exact fQ n (i+1) _ (by omega) (by rw[h1.2.2];exact hb) h1.2.1
end
def Rg(r:Nat->Int)(a b:Nat):Prop:=r a<r b\/(r a=r b/\a<b)
def dV(r:Nat->Int)(gs:List (List Nat))(a:Nat):List (List Nat):=match gs.getLast? with
 |none=>[[a]]
 |some g=>if r (g.getLast?.getD 0)=r a then gs.dropLast++[g++[a]]else gs++[[a]]
structure GrpI (r:Nat->Int) (gs:List (List Nat)) (s:List Nat):Prop where
 g:Grp r gs
 f:gs.flatten=s
theorem GrpI.step{r:Nat->Int}{gs:List (List Nat)}{s:List Nat}(h:GrpI r gs s){a:Nat}(ha:∀b∈s,Rg r b a):GrpI r (dV r gs a) (s++[a]):=by
 obtain⟨⟨h1,h2,h3,h4⟩,hf⟩:=h;have hin:∀g∈gs,∀b∈g,Rg r b a:=λg hg b hb=>ha b (by rw[<-hf];exact List.mem_flatten.2 ⟨g,hg,hb⟩)
 have one:GrpI r ([[a]]:List (List Nat)) [a]:=⟨⟨λg hg=>by rw[List.mem_singleton.1 hg];simp,λg hg=>by rw[List.mem_singleton.1 hg];simp,λg hg b hb c hc=>by
  rw[List.mem_singleton.1 hg]at hb hc
  rw[List.mem_singleton.1 hb,List.mem_singleton.1 hc],by simp⟩,rfl⟩
 unfold dV;rcases List.eq_nil_or_concat gs with rfl|⟨gs',g,rfl⟩
 .have:s=[]:=by rw[<-hf];rfl
  subst this;exact one
 ·rw [List.concat_eq_append]at *
  have hl:(gs'++[g]).getLast?=some g:=by simp
  rw[hl];simp only;have hg:=h1 g (by simp);have hlast:g.getLast?.getD 0∈g:=by rw[List.getLast?_eq_some_getLast hg];exact List.getLast_mem hg
  split
  .rename_i heq
   have hga:∀b∈g,r b=r a:=λb hb=>(h3 g (by simp) b hb _ hlast).trans heq
   rw[List.dropLast_concat];refine⟨⟨λx hx=>?_,λx hx=>?_,λx hx b hb c hc=>?_,?_⟩,?_⟩
   .rcases List.mem_append.1 hx with hx|hx
    .exact h1 x (by simp[hx])
    .rw[List.mem_singleton.1 hx];simp
   .rcases List.mem_append.1 hx with hx|hx
    .exact h2 x (by simp[hx])
    .rw[List.mem_singleton.1 hx,List.pairwise_append]
     refine⟨h2 g (by simp),by simp,λb hb c hc=>?_⟩;rw[List.mem_singleton.1 hc];rcases hin g (by simp) b hb with q|q
     .have:=hga b hb;omega
     .exact q.2
   .have hgx:∀b∈x,(∃y∈gs',y=x)\/r b=r a:=λb hb=>by
     rcases List.mem_append.1 hx with hx|hx
     .exact .inl ⟨x,hx,rfl⟩
     .rw[List.mem_singleton.1 hx]at hb
      rcases List.mem_append.1 hb with hb|hb
      .exact .inr (hga b hb)
      .rw[List.mem_singleton.1 hb];exact .inr rfl
    rcases hgx b hb with⟨y,hy,rfl⟩|q1
    .exact h3 y (by simp[hy]) b hb c hc
    .rcases hgx c hc with⟨y,hy,rfl⟩|q2
     .exact h3 y (by simp[hy]) b hb c hc
     .rw[q1,q2]
   .rw[List.pairwise_append]at h4⊢
    refine⟨h4.1,by simp,λx hx y hy b hb c hc=>?_⟩;rw[List.mem_singleton.1 hy]at hc;rcases List.mem_append.1 hc with hc|hc
    .exact h4.2.2 x hx g (by simp) b hb c hc
    .rw[List.mem_singleton.1 hc,<-heq]
     exact h4.2.2 x hx g (by simp) b hb _ hlast
   .rw[<-hf]
    simp
  .rename_i hne
   refine⟨⟨λx hx=>?_,λx hx=>?_,λx hx=>?_,?_⟩,?_⟩
   .rcases List.mem_append.1 hx with hx|hx
    .exact h1 x hx
    .exact one.g.ne x hx
   .rcases List.mem_append.1 hx with hx|hx
    .exact h2 x hx
    .exact one.g.asc x hx
   .rcases List.mem_append.1 hx with hx|hx
    .exact h3 x hx
    .exact one.g.one x hx
   .rw[List.pairwise_append]
    refine⟨h4,by simp,λx hx y hy b hb c hc=>?_⟩;rw[List.mem_singleton.1 hy]at hc;rw[List.mem_singleton.1 hc];have hlt:r (g.getLast?.getD 0)<r a:=by
     rcases hin g (by simp) _ hlast with q|q
     .exact q
     .exact absurd q.1 hne
    rcases List.mem_append.1 hx with hx|hx
    .have:=(List.pairwise_append.1 h4).2.2 x hx g (by simp) b hb _ hlast
     omega
    .rw[List.mem_singleton.1 hx]at hb
     rw[h3 g (by simp) b hb _ hlast];exact hlt
   .rw[<-hf]
    simp
end Go.Proofs.YtpidfnfilnkhkaaGreat
