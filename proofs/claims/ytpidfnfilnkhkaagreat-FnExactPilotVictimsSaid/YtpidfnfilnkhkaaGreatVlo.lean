import Derived.Test.YtpidfnfilnkhkaaGreatJ38
import Derived.OrdersIn
set_option maxHeartbeats 4000000
set_option maxRecDepth 100000
namespace Go.Proofs.YtpidfnfilnkhkaaGreat
open Go.RowKit Go.WideMaps Go.Maps Tryz
attribute [local go_sem] Oper.semAt_some
theorem dM{lo:Nat}{w:World}{b:Nat}:∀(gs:List (List Nat))(o:Nat),(∀(k:Nat) l,gs[k]?=some l->∃(a:OA)(c:Nat),w.cell? ⟨b,o+k,none⟩=some (.slice a l.length c)/\SliceC IntC 1 lo w a (plI l))->∃ps:List Uy,ps.length=gs.length/\Lw ps=gs.flatten.length/\Hm ps=inV (plI gs.flatten)/\∀(k:Nat) x,ps[k]?=some x->PartOk 1 w x/\w.cell? ⟨b,o+k,none⟩=some (.slice x.ad x.len x.cap)
 |[],_,_=>⟨[],rfl,rfl,rfl,λk x h=>by simp at h⟩
 | l::gs,o,h=>by
  obtain⟨a,c,h1,h2⟩:=h 0 l rfl
  obtain⟨ps,q1,q2,q3,q4⟩:=dM gs (o+1) (λk l' hk=>by
   obtain⟨a',c',k1,k2⟩:=h (k+1) l' (by simpa using hk)
   exact⟨a',c',by rw[show o+1+k=o+(k+1) by omega];exact k1,k2⟩)
  refine⟨⟨a,l.length,c,inV (plI l)⟩::ps,by simp[q1],?_,?_,λk x hk=>?_⟩
  .unfold Lw at q2⊢
   simp only[List.map_cons,List.sum_cons,List.flatten_cons,List.length_append,q2]
  .unfold Hm at q3⊢
   rw[List.flatMap_cons,q3,List.flatten_cons];simp[inV,plI]
  .cases k with
   |zero=>cases hk;exact⟨Nm h2,h1⟩
   |succ k =>
    have:=q4 k x (by simpa using hk)
    rwa [show o+1+k=o+(k+1) by omega]at this
theorem Vp(gs:List (List Nat))(b gc lo:Nat)(w:World)(hg:SliceC LstC 1 lo w (some ⟨b,0,none⟩) gs)(hne:gs≠[])(hK:gs.length<=1000)(hs:gs.flatten.length<=400) :
  Calls prog 144 #[.slice (some ⟨b,0,none⟩) gs.length gc] w λe w'=>∃(ra:OA)(rc:Nat),e=.returned (.slice ra gs.flatten.length rc)/\SliceC IntC 1 w.heap.size w' ra (plI gs.flatten)/\Below w.heap.size w w':=by
 obtain⟨ps,q1,q2,q3,q4⟩:=dM (w:=w) (b:=b) gs 0 (λk l hk=>by
  obtain⟨b',o',e,_,_,a,c,k0,k1⟩:=hg.at hk;cases e
  simp only[Nat.mul_one,Nat.add_zero]at k0
  exact⟨a,c,k0,k1⟩)
 have hbl:b<w.heap.size:=by
  rcases hg.2 with h|⟨b',o',e,_,h,_⟩
  .exact absurd h hne
  .cases e;exact h
 refine(bT ps b gs.length gc w q1 hK (λk x hx=>by have:=q4 k x hx;rwa [Nat.zero_add]at this) hbl (by omega)).mono ?_;rintro e w' ⟨v,rfl,h1,h2⟩;rw[q2,q3]at h1;obtain⟨a,c,rfl,h3⟩:=aU (lo:=w.heap.size) h1 rfl (by omega) nL;exact⟨a,c,rfl,h3,h2⟩
theorem rQ{B:Nat}{W W':World}(hb:Below W.heap.size W W'):KeepsFrom B W W':=⟨hb.size,λk _ _ hk _=>(hb.block k (Array.getElem?_eq_some_iff.1 hk).1).trans hk⟩
theorem Vn{B g m:Nat}{W W':World}(hb:Bt2 g m W W')(h1:g<B)(h2:m<B):KeepsFrom B W W':=⟨hb.2.1,λk _ hB hk _=>(hb.2.2 k (Array.getElem?_eq_some_iff.1 hk).1 (by omega) (by omega)).trans hk⟩
theorem sD{G:Nat->Prop}{g m:Nat}{W W':World}(hb:Bt2 g m W W')(h1:G g)(h2:G m):KpG G W W':=⟨hb.1.1,hb.1.2.1,hb.1.2.2,hb.2.1,λk hk hG=>hb.2.2 k hk (λe=>hG (e▸h1)) (λe=>hG (e▸h2))⟩
theorem yP{B L9 base n:Nat}{T:TypeId}{W w2:World}{v u:Value}{vals:List Value}(hrow:W.ownsRow base T 1 v n vals)(hgr:W.grownBy w2 v.ownBlock){cs:Array Value}{t:TypeId}(h9:Blk L9 cs t W):KeepsFrom B W (w2.setCell ⟨L9,0,none⟩ u) :=
 ⟨by simpa[World.setCell]using hgr.size,λk o _ hk ho=>by
  refine(Below.heap_setCell w2 _ _ k (λe=>?_)).trans ((hgr.block k (Array.getElem?_eq_some_iff.1 hk).1 (λe=>?_)).trans hk)
  .have e2:k=L9:=e
   rw[e2,show W.heap[L9]?=_ from h9]at hk;cases hk
   cases ho
  .obtain⟨cs,t,f,q⟩:=Qw hrow e.symm
   rw[q]at hk;cases hk
   cases ho⟩
theorem zA{G:Nat->Prop}{L9:Nat}{W w2:World}{v u:Value}(hgr:W.grownBy w2 v.ownBlock)(h1:G L9)(h2:∀b,v.ownBlock=some b->G b):KpG G W (w2.setCell ⟨L9,0,none⟩ u) :=
 ⟨hgr.os,hgr.tape,hgr.output,by simpa[World.setCell]using hgr.size,λk hk hG=>(Below.heap_setCell w2 _ _ k (λe=>hG (by have e2:k=L9:=e;rw[e2];exact h1))).trans (hgr.block k hk (λe=>hG (h2 k e.symm)))⟩
theorem Mq{F:Fence}{n:Nat}{P:Program}(w:World){ops:Array Oper}{rest:List Oper}{o:Oper}{a:Act}{Q:Exit->Act->World->Prop}(hg:o.guard=none)(s x:Operand)(t:TypeId)(hop:o.op=Op.call {callee:=Callee.builtin Builtin.append,args:=#[s,x],argTypes:=#[t,t]})(base:Nat)(e:TypeId)(i:TypeInfo)(z:Value)(size bytes:Nat)(h1:P.underlying t=some (.slice e))(h2:P.info? e=some i)(h3:i.zero=some z)(h4:i.size=size)(h5:i.bytes=bytes)(h6:z.cells.size=size)(h7:0<size)(v:Value)(k:Nat)(xs:List Value)(hs:a.eval s=v)(hown:w.ownsRow base e size v k xs)(ad:Addr)(m c:Nat)(news:List Value)(hx:a.eval x=.slice (some ad) m c)(hn:news.length=m*size)(hc:∀j u,news[j]?=some u->w.cell? (ad.add j)=some u)(h1c:∀u∈news,u.oneCell'=true)(hm:0<m)(b1:k+m<=maxLen)(b2:(k+m)*bytes<=140737488355328)(b3:base<=w.heap.size)(hK:∀g cap w',w'.ownsRow base e size (.slice (some ⟨g,0,none⟩) (k+m) cap) (k+m) (xs++news)->w.grownBy w' v.ownBlock->(v.ownBlock=some g\/g=w.heap.size)->g<w'.heap.size->wpListIn F n P ops Q rest (a.put o.dst (.slice (some ⟨g,0,none⟩) (k+m) cap)) w') :
  wpListIn F n P ops Q (o::rest) a w:=by
 refine wpListIn_plain hg λK hK'=>?_
 obtain⟨g,cap,w',hrun,r1,r2,r3,r4⟩:=run_append_lies (P:=P) w t o.type base e i z size bytes h1 h2 h3 h4 h5 h6 h7 v k xs hown ad m c news hn hc h1c hm b1 b2 b3 _ rfl;unfold Oper.wpIn;refine⟨?_,?_⟩
 .simp[Oper.about,hop,resolve,Target.leads,Sem.run_pure]
 .rw[Oper.semAt_plain F _ _ (by rw[hop];intro c hc';cases hc')]
  simp[execOp,hop,resolve,invoke,builtin,hs,hx,hrun,Result.andThen];exact hK' _ _ (hK g cap w' r1 r2 r3 r4)
theorem Jb{F:Fence}{nF:Nat}{P:Program}{ops:Array Oper}{rest:List Oper}{op:Oper}{a:Act}{w:World}{Q:Exit->Act->World->Prop}(hw:Region.wanted op (yielded ops a.tmps)=true)(ty:TypeId)(x:Operand)(ho:op.op=.load ty x)(b o:Nat)(hx:a.eval x=.pointer (some ⟨b,o,none⟩))(cs:List Value)(d:TypeDesc)(hc:w.rangeAt b o cs)(hu:P.underlying ty=some d)(hd:d.isRow=true)(hi:(P.info? ty).map (·.size)=some cs.length)(h:wpListIn F nF P ops Q rest (a.put op.dst (.agg cs.toArray)) w):wpListIn F nF P ops Q (op::rest) a w:=by
 refine wpListIn_step λK' hK'=>?_
 rw[if_pos hw];unfold Oper.wpIn;refine⟨by simp[Oper.about,ho],?_⟩;rw[Oper.semAt_plain F _ _ (by rw[ho];intro c hc';cases hc')];simp only[execOp,ho,hx,Instr.loadAt,Instr.sureAddr,Sem.run_bind,Sem.run_pure,Result.andThen_ok,run_loadVar_mid w b o ty cs d hc hu hd hi];exact hK' _ _ h
theorem Li:(prog.info? 112).map (·.size)=some 27:=by kernel_rfl
theorem CN:Qo 112 27:=⟨_,underlying112,rfl,Li⟩
theorem eB:(prog.info? 68).map (λi=>(i.zero,i.size,i.bytes))=some (some (.slice none 0 0),1,24):=by kernel_rfl
theorem kG(k:VC)(ho:VOk k)(ls gs:List (List Nat))(la:OA)(lc gb gc:Nat)(ag:OA)(ng cg:Nat)(w:World)(hS:VS k w)(hl:SliceC LstC 1 k.L0 w la ls)(hg:SliceC LstC 1 k.L0 w (some ⟨gb,0,none⟩) gs)(hne:gs≠[])(hgn:∀g∈gs,g≠[])(hlm:∀l∈ls,l.Pairwise (·<·)/\(∀e∈l,e∈Bc k.x k.y k.b)/\l.length<=100)(hgm:∀g∈gs,(∀e∈g,e∈Bc k.x k.y k.b)/\g.length<=100)(hls:ls.length<=10000000000)(hgs:gs.length<=1000)(hfl:gs.flatten.length<=100) :
  Calls prog 118 #[.agg (Co k ag ng cg),.slice la ls.length lc,.slice (some ⟨gb,0,none⟩) gs.length gc] w λe w'=>∃(a:OA)(c:Nat),e=.returned (.slice a (Gp (Ci k.x k.ci k.y k.b) ls gs).length c)/\SliceC LstC 1 k.L0 w' a (Gp (Ci k.x k.ci k.y k.b) ls gs)/\VS k w'/\Bt2 k.G k.m4 w w':=by
 obtain⟨i0,hi,hz0,hz1,hz2⟩:=info_parts eB;have g1:=ho.GL;have g2:=ho.mL;have hL:=hS.size ho;obtain⟨m,hm⟩:∃m,gs.length=m+1:=⟨gs.length-1,by have:=List.length_pos_iff.2 hne;omega⟩;obtain⟨last,hlast⟩:∃g,gs[m]?=some g:=⟨gs[m]'(by omega),gE _⟩;have hgl:gs.getLast?.getD []=last:=by rw[List.getLast?_eq_getElem?,hm,Nat.add_sub_cancel,hlast];rfl
 obtain⟨gb',go',hge,_,hgbw,lga,lgc,q0,q1⟩:=hg.at hlast;cases hge
 simp only[Nat.mul_one,Nat.add_zero,Nat.zero_add]at q0;have hlm0:=hgm last (List.mem_of_getElem? hlast);have HG:=iH hg;have HL:=iH hl;have HLM:=iH hlm;have HGM:=iH hgm;have HK:=iH ho;have HLAST:=iH hlast;have HGL:=iH hgl;have HQ1:=iH q1;have HLM0:=iH hlm0;have HLB:Hid (∀b o,lga=some ⟨b,o,none⟩->k.L0<=b/\b<w.heap.size):=λb o e=>by
  rcases q1.2 with q|⟨b2,o2,e2,q,q5,_⟩
  .exact absurd (by simpa using q) (hgn last (List.mem_of_getElem? hlast))
  .rw[e]at e2;cases e2;exact⟨q.1,q5⟩
 have hgp:=(hS.rw.lt k.gp rfl).2;have hrb:=hS.rl;have hb0:=(Below.refl _ w).alloc nL (Obj.cells (Co k ag ng cg) 112);have HX:=iH (Blk.alloc w (Co k ag ng cg) 112);have HS0:=iH (hS.below ho hb0);have HG0:=iH (hg.below LstC.holds hb0 nL);have HB0:Hid (Bt2 k.G k.m4 w (w.alloc (Obj.cells (Co k ag ng cg) 112))):=Bt2.of_below hb0;have q2:(w.alloc (Obj.cells (Co k ag ng cg) 112)).cell? ⟨gb,m,none⟩=some (.slice lga last.length lgc):=(hb0.cell (p:=⟨gb,m,none⟩) hgbw).trans q0;obtain⟨fl,hfe⟩:∃l,gs.flatten=l:=⟨_,rfl⟩;have HFE:=iH hfe;have hfl1:fl.length<=100:=by rw[<-hfe];exact hfl
 have HFM:Hid (∀e∈fl,e∈Bc k.x k.y k.b):=λe he=>by
  rw[<-hfe]at he;obtain⟨g,q1,q2⟩:=List.mem_flatten.1 he;exact(hgm g q1).1 e q2
 clear hfe;have hgl1:gs.length<=1000:=hgs;rw[hm]at hgl1;rw[hm];have hs0:(w.alloc (Obj.cells (Co k ag ng cg) 112)).heap.size=w.heap.size+1:=by simp
 clear hS hl hg hlm hgm hlast hgl q1 hlm0 q0;refine(callsIn_wide (n:=7)).1 ?_;refine callsIn_of_wp_marks func118 rfl trivial ?_ rfl;refine wpIn_wide.2 ?_;simp only[ntmps118,List.size_toArray,List.length_cons,List.length_nil,Nat.reduceAdd,Nat.reduceSub,Array.replicate_succ,Array.replicate_zero,List.push_toArray,List.append_toArray,List.nil_append,List.cons_append];go_upto_region 1 with fail;generalize w.alloc (Obj.cells (Co k ag ng cg) 112)=w0 at *
 go_cut [7,8]from 17 to 24 (λp g wz=>∃(A:Nat)(ra:OA)(rc:Nat),p=.pointer (some ⟨A,0,none⟩)/\g=.slice lga last.length lgc/\Hid (Blk A #[.slice ra fl.length rc] 68 wz)/\Hid (SliceC IntC 1 (w.heap.size+1) wz ra (plI fl))/\Hid (Below w0.heap.size w0 wz)/\w0.heap.size<=A)
 case first =>
  refine wp_region_noPanic ?_;refine wp_region_held_drew (S:=λwy=>wy.cell? ⟨gb,m,none⟩=some (.slice lga last.length lgc)) (by kernel_rfl) q2 (λhS=>?_);have hd:Below w0.heap.size w0 w0.drew:=(Below.refl _ w0).drew;have hq:w0.drew.cell? ⟨gb,m,none⟩=some (.slice lga last.length lgc):=q2;refine tz 0 17 (.slice (some ⟨gb,0,none⟩) (m+1) gc) ?_;refine tz 2 19 (.slice (some ⟨gb,0,none⟩) (m+1) gc) ?_;refine tz 3 20 (.slice (some ⟨gb,0,none⟩) (m+1) gc) ?_;refine tz 4 21 (.int .i64 (((m+1:Nat):Int))) ?_;refine ty 5 ⟨some 22,_,_,_,_,none⟩ (.int .i64 ((m:Nat):Int)) ?_ ?_
  .intro wy hy
   clear hy;go_simp;simp[IntKind.wrap,IntKind.bits,IntKind.signed];omega
  refine ty 6 ⟨some 23,_,_,_,_,none⟩ (.pointer (some ⟨gb,m,none⟩)) ?_ ?_
  .intro wy hy
   clear hy;go_simp;intro h;omega
  refine ty 7 ⟨some 24,_,_,_,_,none⟩ (.slice lga last.length lgc) ?_ ?_
  .intro wy hy
   have hcell:wy.cell? ⟨gb,m,none⟩=some (.slice lga last.length lgc):=hy;clear hy;go_simp
  have HGD:=qSl LstC.holds HG0 hd;have HBD:=iH hd;have hwd:w.heap.size+1=w0.drew.heap.size:=hs0.symm;clear hd;generalize w0.drew=wd at *;have hgbd:gb<wd.heap.size:=by omega
  refine wpAnyH_ready (rs:=[1,8]) (by kernel_rfl) (by simp) (AllReadyH.cons (o:=⟨some 18,_,_,_,_,none⟩) rfl (λKK hKK=>?_) (AllReadyH.cons (o:=⟨some 7,_,_,_,_,none⟩) rfl (λKK hKK=>?_) AllReadyH.nil))
  case' _ =>
   go_simp;have hcc:=Vp gs gb gc k.L0 wd HGD hne hgs (by omega);rw[hm,HFE.out]at hcc;refine hcc.mono ?_;rintro e w1⟨ra,rc,rfl,hr,hb1⟩;clear hcc;have HS1:Hid (w1.cell? ⟨gb,m,none⟩=some (.slice lga last.length lgc)):=(hb1.cell (p:=⟨gb,m,none⟩) hgbd).trans hq;refine hKK.out _ _ HS1 (λhS=>?_);clear hKK KK;refine rd1 8 ⟨some 7,_,_,_,_,none⟩ rfl (λKK hKK=>?_);go_simp;have hal:=(Below.refl _ w1).alloc nL (Obj.cells #[Value.slice none 0 0] 68);have hgb1:gb<w1.heap.size:=lL hgbd hb1.size;have HBA:=iH (Blk.alloc w1 #[Value.slice none 0 0] 68);have HAL:=iH ((hr.keep IntC.holds (Keeps.refl _ _) (by omega:w.heap.size+1<=wd.heap.size)).below IntC.holds hal nL);have HBB:=iH (HBD.out.trans ((qTr hb1 hal).mono HBD.out.size));have hA:w0.heap.size<=w1.heap.size:=lT HBD.out.size hb1.size;have HNE:Hid (∀b o,plI fl≠[]->ra=some ⟨b,o,none⟩->b≠w1.heap.size):=λb o hn e=>by
    rcases hr.2 with q|⟨b2,o2,e2,_,q,_⟩
    .exact absurd q hn
    .rw[e]at e2;cases e2;omega
   have HS2:Hid ((w1.alloc (Obj.cells #[Value.slice none 0 0] 68)).cell? ⟨gb,m,none⟩=some (.slice lga last.length lgc)):=(hal.cell (p:=⟨gb,m,none⟩) hgb1).trans HS1;refine hKK.out _ _ HS2 (λhS=>?_);clear hKK KK hr hb1 HS1 hal;generalize w1.heap.size=A at *;generalize w1.alloc (Obj.cells #[Value.slice none 0 0] 68)=wA at *
  rotate_left
  case' _ =>
   go_simp;have hal:=(Below.refl _ wd).alloc nL (Obj.cells #[Value.slice none 0 0] 68);have HBA0:=iH (Blk.alloc wd #[Value.slice none 0 0] 68);have HGE:=qSl LstC.holds HGD hal;have HBE:=qTH HBD hal;have hA:w0.heap.size<=wd.heap.size:=HBD.out.size;have HS1:Hid ((wd.alloc (Obj.cells #[Value.slice none 0 0] 68)).cell? ⟨gb,m,none⟩=some (.slice lga last.length lgc)):=(hal.cell (p:=⟨gb,m,none⟩) hgbd).trans hq;have hwe:w.heap.size+1<=(wd.alloc (Obj.cells #[Value.slice none 0 0] 68)).heap.size:=by have:=hal.size;omega
   have hgbe:gb<(wd.alloc (Obj.cells #[Value.slice none 0 0] 68)).heap.size:=lL hgbd hal.size;refine hKK.out _ _ HS1 (λhS=>?_);clear hKK KK hal;generalize wd.heap.size=A at *;generalize wd.alloc (Obj.cells #[Value.slice none 0 0] 68)=we at *;refine rd1 1 ⟨some 18,_,_,_,_,none⟩ rfl (λKK hKK=>?_);go_simp;have hcc:=Vp gs gb gc k.L0 we HGE hne hgs (by omega);rw[hm,HFE.out]at hcc;refine hcc.mono ?_;rintro e wA⟨ra,rc,rfl,hr,hb1⟩;clear hcc;have HBA:=qBk HBA0 hb1;have HAL:=iH (hr.keep IntC.holds (Keeps.refl _ _) hwe);have HBB:=qTH HBE hb1;have HS2:Hid (wA.cell? ⟨gb,m,none⟩=some (.slice lga last.length lgc)):=(hb1.cell (p:=⟨gb,m,none⟩) hgbe).trans HS1;have hAe:A<we.heap.size:=HBA0.out.lt;have HNE:Hid (∀b o,plI fl≠[]->ra=some ⟨b,o,none⟩->b≠A):=λb o hn e=>by
    rcases hr.2 with q|⟨b2,o2,e2,q,_,_⟩
    .exact absurd q hn
    .rw[e]at e2;cases e2;have:=q.1;omega
   refine hKK.out _ _ HS2 (λhS=>?_);clear hKK KK hr hb1 HS1 HBA0
  rotate_left
  all_goals
   refine rd1 9 ⟨none,_,_,_,_,none⟩ rfl (λKK hKK=>?_);have hc9:wA.cell? ⟨A,0,none⟩=some (.slice none 0 0):=HBA.out.cell rfl;have hf9:=HBA.out.frozen 0;go_simp;clear hc9 hf9;have HBA2:=iH (HBA.out.set 0 (.slice ra fl.length rc));have HAL2:Hid (SliceC IntC 1 (w.heap.size+1) (wA.setCell ⟨A,0,none⟩ (.slice ra fl.length rc)) ra (plI fl)):=Fa HAL (by simp[World.setCell]) (λb o hn e _ _ _=>Below.heap_setCell wA _ _ b (HNE b o hn e));have HBB2:=iH (HBB.out.setCell (p:=⟨A,0,none⟩) hA (.slice ra fl.length rc));have HS3:Hid ((wA.setCell ⟨A,0,none⟩ (.slice ra fl.length rc)).cell? ⟨gb,m,none⟩=some (.slice lga last.length lgc)):=(World.cell?_of_block (a:=⟨gb,m,none⟩) (Below.heap_setCell wA _ _ gb (by show gb≠A;omega))).trans HS2;refine hKK.out _ _ HS3 (λhS=>?_);clear hKK KK HAL HBA HBB HNE HS2;generalize wA.setCell ⟨A,0,none⟩ (.slice ra fl.length rc)=wz at *;refine tz 10 8 (.slice lga last.length lgc) ?_;refine td ?_;clear hS;simp only[NoPanic]
   go_wp2
   go_meet;exact⟨A,ra,rc,rfl,rfl,HBA2,HAL2,HBB2,hA⟩
 case rest =>
  obtain⟨A,ra,rc,rfl,rfl,HBA,HAL,HBB,hA⟩:=hcut;have hal:=(Below.refl _ wc).alloc nL (Obj.cells #[.slice none 0 0] 109);have hwc:=HBB.out.size;have hAc:=HBA.out.lt;have HLO:Hid (LoS k w w.heap.size A wc.heap.size ag ng cg ra rc fl [] (.slice none 0 0) (El (Ci k.x k.ci k.y k.b) (ls.take 0) gs) (wc.alloc (Obj.cells #[.slice none 0 0] 109))):=by
   have hb1:=qTr HBB hal;refine⟨HS0.out.below HK hb1,HB0.out.trans (Bt2.of_below hb1),HX.out.below hb1 HX.out.lt,HBA.out.below hal HBA.out.lt,Blk.alloc _ _ _,(HAL.out.keep IntC.holds (Keeps.refl _ _) (by omega)).below IntC.holds hal nL,λhn b o e=>?_,⟨[],World.ownsRow_nil _ _ _ _,LsN.nil _ _ _⟩,λD h=>(by cases h),List.Pairwise.nil,⟨Nat.le_refl _,by omega,by omega,hAc⟩,⟨hgp,hrb,hL⟩⟩;rcases HAL.out.2 with q|⟨b2,o2,e2,_,q,_⟩
   .exact absurd q hn
   .rw[e]at e2;cases e2;exact q
  have hwl:w.heap.size<wc.heap.size:=by omega
  clear HBA HAL HBB HS0 HB0 HX hA hal HG0 q2 hwc hAc;go_wp2_with fail;generalize wc.heap.size=L9 at *;generalize wc.alloc (Obj.cells #[Value.slice none 0 0] 109)=wN at *;refine wp_loop (λa' w'=>∃(n:Nat)(v:Value)(Ds:List Nat)(u11 u28 u29 u30 u31 u32 u58:Value),n<=ls.length/\LoS k w w.heap.size A L9 ag ng cg ra rc fl Ds v (El (Ci k.x k.ci k.y k.b) (ls.take n) gs) w'/\a'={tmps:=#[.agg (Co k ag ng cg),.slice la ls.length lc,.slice (some ⟨gb,0,none⟩) (m+1) gc,.pointer (some ⟨w.heap.size,0,none⟩),undef,undef,.slice none 0 0,.pointer (some ⟨A,0,none⟩),.slice lga last.length lgc,.pointer (some ⟨L9,0,none⟩),undef,u11,undef,undef,undef,undef,undef,u17,u18,u19,u20,u21,u22,u23,u24,.slice la ls.length lc,.int .i64 ls.length,.int .i64 ((n:Nat):Int),u28,u29,u30,u31,u32,undef,undef,undef,undef,undef,undef,undef,undef,undef,undef,undef,undef,undef,undef,undef,undef,undef,undef,undef,undef,undef,undef,undef,undef,undef,u58,undef,undef,undef],defers:=Ds.map λD=>{target:=.collected D,args:=#[]}}) (λa' _=>ls.length-(intOf (a'.tmps.getD 27 undef)).toNat) ⟨0,_,[],undef,undef,undef,undef,undef,undef,undef,zL,HLO,rfl⟩ ?_;clear HLO;rintro a0 wr⟨n,v,Ds,u11,u28,u29,u30,u31,u32,u58,hn,hlo,rfl⟩;have HLO:=iH hlo;clear hlo;by_cases hlt:n<ls.length
  .obtain⟨t,ht⟩:=gXe hlt
   have hkp:=HLO.out.bt.keeps g1 g2;obtain⟨lb,lo',hle,hlb1,hlb2,ta,tc,p1,p2⟩:=HL.out.at ht;subst hle;simp only[Nat.mul_one,Nat.add_zero]at p1;have p0:=(hkp.2 lb _ hlb1 hlb2).1.trans p1;have HTA:=iH p2;have HT:=iH ht;obtain⟨tm1,tm2,tm3⟩:=HLM.out t (List.mem_of_getElem? ht);have HTM1:=iH tm1;have HTM2:=iH tm2;clear p2 hkp ht p1 tm1 tm2;go_wp2_with(go_at_call 145;refine(aJ _ _ _ _).mono ?_;rintro e w6 ⟨rfl,rfl⟩);clear p0;have hbE:Below wr.heap.size wr ((wr.alloc (Obj.cells #[.slice ta t.length tc] 68)).alloc (Obj.cells #[.slice lga last.length lgc] 68)):=((Below.refl _ wr).alloc nL _).alloc (by simp) _;have HE:Hid (Blk wr.heap.size #[.slice ta t.length tc] 68 ((wr.alloc (Obj.cells #[.slice ta t.length tc] 68)).alloc (Obj.cells #[.slice lga last.length lgc] 68))):=(Blk.alloc wr _ _).below ((Below.refl _ _).alloc nL _) (Blk.alloc wr _ _).lt;have HBX:Hid (Blk (wr.heap.size+1) #[.slice lga last.length lgc] 68 ((wr.alloc (Obj.cells #[.slice ta t.length tc] 68)).alloc (Obj.cells #[.slice lga last.length lgc] 68))):=by
    have h:=Blk.alloc (wr.alloc (Obj.cells #[.slice ta t.length tc] 68)) #[.slice lga last.length lgc] 68;show Blk _ _ _ _
    simpa using h
   have hs6:((wr.alloc (Obj.cells #[.slice ta t.length tc] 68)).alloc (Obj.cells #[.slice lga last.length lgc] 68)).heap.size=wr.heap.size+2:=by simp
   have HLO6:=iH (HLO.out.below HK hbE);have HOWN:Hid (∀b,v.ownBlock=some b->b<wr.heap.size):=λb hb=>(HLO.out.own hb).2
   have hLE:=HLO.out.b9.lt;have HDS:Hid (∀D∈Ds,D<wr.heap.size):=λD hD=>(Array.getElem?_eq_some_iff.1 (HLO.out.ds D hD).2).1
   clear HLO hbE;generalize wr.heap.size=E at *;generalize(wr.alloc (Obj.cells #[.slice ta t.length tc] 68)).alloc (Obj.cells #[.slice lga last.length lgc] 68)=w6 at *
   refine wpIn_wide.1 (wpIn_rangeFunc_ownH (F:=Fence.wide) (n:=6) rfl (by omega) (gf:=171) (lb:=#[.pointer (some ⟨E+1,0,none⟩)]) rfl trivial (enters_of func171 (by kernel_rfl) rfl)
    (Uo (λb=>b≠E+1/\∀o,lga≠some ⟨b,o,none⟩) last lga lgc k.L0 (E+1) w6 (HBX.out.cell rfl) (HQ1.out.keep IntC.holds (HLO6.out.bt.keeps g1 g2) nL) (λh=>h.1 rfl) (λb o e h=>h.2 o e) (by have:=HLM0.out.2;omega))
    (λh1 h2=>h1.trans h2) (λW' l' o o' hl _ _ _=>⟨rfl,rfl,rfl,(grownBy_putObj' W' l' o').size,λb hb hG=>World.putObj_heap_other (λe=>hG ⟨by omega,λo2 e2=>by have:=(HLB b o2 e2).2;omega⟩)⟩) (Below.refl _ _) (λ_=>rfl)
    (λpre W'=>∃v':Value,LoS k w w.heap.size A L9 ag ng cg ra rc fl Ds v' (El (Ci k.x k.ci k.y k.b) (ls.take n) gs++Mm (Ci k.x k.ci k.y k.b) fl t (pre.map (·.1))) W'/\Blk E #[.slice ta t.length tc] 68 W'/\(∀b,v'.ownBlock=some b->b≠E/\b≠E+1)/\NoC t (pre.map (·.1)))
    (λc pre W'=>c=Code.exit 2/\∃(v':Value)(pre':List (DnS last))(s:DnS last),pre=pre'++[s]/\t.contains s.1.2=true/\NoC t (pre'.map (·.1))/\LoS k w w.heap.size A L9 ag ng cg ra rc fl Ds v' (El (Ci k.x k.ci k.y k.b) (ls.take n) gs++Mm (Ci k.x k.ci k.y k.b) fl t (pre'.map (·.1))) W') ?_ ?_ ?_
    (λs a' _=>a'={tmps:=#[.agg (Co k ag ng cg),.slice (some ⟨lb,lo',none⟩) ls.length lc,.slice (some ⟨gb,0,none⟩) (m+1) gc,.pointer (some ⟨w.heap.size,0,none⟩),undef,undef,.slice none 0 0,.pointer (some ⟨A,0,none⟩),.slice lga last.length lgc,.pointer (some ⟨L9,0,none⟩),undef,.pointer (some ⟨E,0,none⟩),undef,.int .i64 ((s.1.2:Nat):Int),undef,undef,undef,u17,u18,u19,u20,u21,u22,u23,u24,.slice (some ⟨lb,lo',none⟩) ls.length lc,.int .i64 ls.length,.int .i64 ((n:Nat):Int),.bool true,.pointer (some ⟨lb,lo'+n,none⟩),.slice ta t.length tc,.slice lga last.length lgc,.func (.func 171) #[] #[.pointer (some ⟨E+1,0,none⟩)],.int .i64 ((s.1.1:Nat):Int),.int .i64 ((s.1.2:Nat):Int),undef,undef,undef,undef,undef,undef,undef,undef,undef,undef,undef,undef,undef,undef,undef,undef,undef,undef,undef,undef,undef,undef,undef,u58,undef,undef,undef],defers:=[]}) ?_ ?_ ?_ ?_ ?_)
   .rintro s X Y row⟨v',h1,h2,h3,h4⟩hgr hr
    exact⟨v',h1.wr HK hgr (λq e=>⟨by have:=(hr q e).1;omega,(hr q e).2⟩) (λD hD=>⟨hD,λe=>by have:=(hr D e).1;have:=HDS.out D hD;omega⟩) h1.dn,h2.grown hgr (λe=>by have:=(hr E e.symm).1;omega),h3,h4⟩
   .rintro c s X Y row⟨h0,v',pre',x,h1,h2,h3,h4⟩hgr hr
    exact⟨h0,v',pre',x,h1,h2,h3,h4.wr HK hgr (λq e=>⟨by have:=(hr q e).1;omega,(hr q e).2⟩) (λD hD=>⟨hD,λe=>by have:=(hr D e).1;have:=HDS.out D hD;omega⟩) h4.dn⟩
   .exact⟨v,by rw[show Mm (Ci k.x k.ci k.y k.b) fl t (([]:List (DnS last)).map (·.1))=[]from rfl,List.append_nil];exact HLO6.out,HE,λb hb=>by have:=HOWN.out b hb;omega,λx hx=>by cases hx⟩
   .rintro s a' _ X Y row h _ _
    exact h
   .rintro l' pre s W' K h1 hK
    have hKK:=iH hK;clear hK
    gi_wp2
    exact hKK.out _ _ (KeepsFrom.refl _ _) (KpG.refl _ _) h1 rfl
   .rintro l' pre s a' W' hl' hr' ⟨v',h1,h2,h3,h4⟩rfl hlen
    have hse:s.1.2∈last:=s.2;have hacc:(El (Ci k.x k.ci k.y k.b) (ls.take n) gs++Mm (Ci k.x k.ci k.y k.b) fl t (pre.map (·.1))).length<=1000000000200:=by
     have q1:=Ui (Ci k.x k.ci k.y k.b) (ls.take n) gs;have q2:=rA (Ci k.x k.ci k.y k.b) fl t (pre.map (·.1));rw[HGL.out,List.length_take]at q1;rw[List.length_map]at q2;rw[List.length_append];have q3:=HLM0.out.2;have q4:min n ls.length*last.length<=10000000000*100:=Nat.mul_le_mul (by omega) q3;omega
    obtain⟨acc,haq⟩:∃l,El (Ci k.x k.ci k.y k.b) (ls.take n) gs++Mm (Ci k.x k.ci k.y k.b) fl t (pre.map (·.1))=l:=⟨_,rfl⟩;rw[haq]at h1 hacc;have HAQ:=iH haq;clear haq;obtain⟨rq,hrq⟩:=hr';have hWW:l'<W'.heap.size:=(Array.getElem?_eq_some_iff.1 hrq).1;have H1:=iH h1;have H2:=iH h2;have H3:=iH h3;have H4:=iH h4;clear h1 h2 h3 h4 hrq;obtain⟨e,he⟩:∃e,e=s.1.2:=⟨_,rfl⟩;rw[<-he]at hse⊢;have HE2:=iH he;clear he;have HCC:=iH (Wz t ta tc k.L0 e W' (HTA.out.keep IntC.holds (H1.out.bt.keeps g1 g2) nL) (by omega));have r1:W'.cell? ⟨E,0,none⟩=some (.slice ta t.length tc):=H2.out.cell rfl
    gi_wp2_with fail
    clear r1;refine⟨trivial,(CallsIn.inRound l' (callsIn_wide.2 HCC)).mono ?_⟩;rintro en W8⟨rfl,hb8⟩;clear HCC;have hbA:=Bt2.of_below (g:=k.G) (m:=k.m4) hb8;replace H1:=iH (H1.out.below HK hb8);replace H2:=qBk H2 hb8;clear hb8;by_cases hct:t.contains e=true
    .rw[hct]
     gi_wp2_with fail
     exact⟨Vn hbA (by omega) (by omega),rfl,v',pre,s,rfl,by rw[<-HE2.out];exact hct,H4,by rw[HAQ.out];exact H1.out⟩
    have hcf:t.contains e=false:=by simpa using hct
    have hen:e∉t:=λq=>hct (by simpa using q)
    rw[hcf];have HBS:=iH (vK t ta tc k.L0 e W8 (HTA.out.keep IntC.holds (H1.out.bt.keeps g1 g2) nL) HTM1 (by omega));obtain⟨ix,hix⟩:∃i,t.countP (·<e)=i:=⟨_,rfl⟩;rw[hix]at HBS;have HIX:=iH hix;clear hix;have r1:W8.cell? ⟨E,0,none⟩=some (.slice ta t.length tc):=H2.out.cell rfl
    gi_wp2_with fail
    clear r1;refine⟨trivial,(CallsIn.inRound l' (callsIn_wide.2 HBS)).mono ?_⟩;rintro en W9⟨tb,rfl,hb9⟩;clear HBS;replace hbA:=hbA.trans (Bt2.of_below hb9);have hW9E:E+2<=W9.heap.size:=by have:=hbA.2.1;omega
    replace H1:=iH (H1.out.below HK hb9);replace H2:=qBk H2 hb9;clear hb9;have HOW9:Hid (∀b,v'.ownBlock=some b->b<W9.heap.size):=λb hb=>(H1.out.own hb).2
    have HCL:=iH (kH t ta tc k.L0 W9 (HTA.out.keep IntC.holds (H1.out.bt.keeps g1 g2) nL) (by omega));have r1:W9.cell? ⟨E,0,none⟩=some (.slice ta t.length tc):=H2.out.cell rfl
    gi_wp2_with fail
    clear r1;refine⟨trivial,(CallsIn.inRound l' (callsIn_wide.2 HCL)).mono ?_⟩;rintro en W10⟨cv,rfl,hrow,hb10⟩;clear HCL;have hW9:W9.heap.size<=W10.heap.size:=hb10.size;have hal:=(Below.refl _ W10).alloc nL (Obj.cells #[.int .i64 ((e:Nat):Int)] 3);have HIN:=dI t e W10.heap.size W9.heap.size cv (W10.alloc (Obj.cells #[.int .i64 ((e:Nat):Int)] 3)) (Ak hrow hal) (Blk.alloc _ _ _) (λg c q=>by have:=(hrow.lt g (by rw[q];rfl)).2;omega) (lT hW9 hal.size) HTM1 hen (by omega);rw[HIX.out,show t.length+1=(Fv e t).length by rw[(Fz e t).length_eq];rfl]at HIN;have hqs:(Fv e t).length<=101:=by rw[(Fz e t).length_eq,List.length_cons];omega
    have hqm:∀b∈Fv e t,b∈Bc k.x k.y k.b:=λb hb=>(Er.1 hb).elim (λq=>by rw[q];exact HLM0.out.1 e hse) (HTM2 b)
    have HQM:=iH hqm;replace HIN:=iH HIN;obtain⟨qq,hqq⟩:∃q,Fv e t=q:=⟨_,rfl⟩;rw[hqq]at HIN hqs HQM;have HQQ:=iH hqq;have HB10:=iH (qTr hb10 hal);clear hqq hqm hrow HIX hal hb10
    gi_wp2_with fail
    refine⟨trivial,(CallsIn.inRound l' (callsIn_wide.2 HIN)).mono ?_⟩;rintro en W11⟨qa,qc,rfl,hq,hb11⟩;clear HIN;have hb:=HB10.out.trans hb11;have hW911:=hb.size;have hL9W:=H1.out.b9.lt;replace hbA:=hbA.trans (Bt2.of_below hb);replace H1:=iH (H1.out.below HK hb);replace H2:=qBk H2 hb;have HQB:Hid (∀b o,qq≠[]->qa=some ⟨b,o,none⟩->W9.heap.size<=b):=λb o hn e9=>by
     rcases hq.2 with q|⟨b2,o2,e2,q,_,_⟩
     .exact absurd (by simpa using q) hn
     .rw[e9]at e2;cases e2;exact q.1
    have hW9L:L9<W9.heap.size/\E+1<W9.heap.size:=by have:=hW9E;omega
    have HQ:=iH (hq.keep IntC.holds (Keeps.refl _ W11) (by omega:k.L0<=W9.heap.size));have HRB:Hid (W11.rangeAt w.heap.size 0 (Co k ag ng cg).toList):=H1.out.b3.rangeA;have r3:W11.cell? ⟨A,0,none⟩=some (.slice ra fl.length rc):=H1.out.ba.cell rfl;have HMS:=iH (aE k HK qq fl qa qc ra rc ag ng cg W11 H1.out.vs HQ HQM (by omega) H1.out.al HFM (by omega));clear hq hb11 hb HB10
    gi_wp2_with (first|(refine Jb (by rfl) 112 _ rfl w.heap.size 0 (by first|rfl|(simp[go_sem];done)) (Co k ag ng cg).toList _ HRB underlying112 rfl Li ?_))
    refine⟨trivial,(CallsIn.inRound l' (callsIn_wide.2 HMS)).mono ?_⟩;rintro en W12⟨rfl,hS12,hb12⟩;clear HMS r3 HRB;have hE0:=H2.out.lt;have hw9s:W9.heap.size<=W11.heap.size:=hW911;replace hbA:=hbA.trans hb12;replace H1:=iH (H1.out.bt2 HK hS12 hb12);replace H2:Hid (Blk E #[.slice ta t.length tc] 68 W12):=(hb12.2.2 E hE0 (by omega) (by omega)).trans H2;replace HQ:=iH (HQ.out.keep IntC.holds (hb12.keeps g1 g2) nL);have hw9t:W9.heap.size<=W12.heap.size:=lT hw9s hb12.2.1;clear hS12 hb12;obtain⟨tv,htv⟩:∃b,Ci k.x k.ci k.y k.b qq fl=b:=⟨_,rfl⟩;rw[htv];have HAC:Hid (El (Ci k.x k.ci k.y k.b) (ls.take n) gs++Mm (Ci k.x k.ci k.y k.b) fl t ((pre++[s]).map (·.1))=acc++if tv=true then[qq]else []):=by
     show _=_
     rw[List.map_append,List.map_cons,List.map_nil,nY,<-HE2.out,HQQ.out,htv,<-List.append_assoc,HAQ.out]
    have HNC:Hid (NoC t ((pre++[s]).map (·.1))):=by
     show NoC _ _
     rw[List.map_append];exact H4.out.snoc (by rw[<-HE2.out];exact hcf)
    have HGG:Hid (∀b,b<k.L0->(λb=>b≠E+1/\∀o,lga≠some ⟨b,o,none⟩) b):=λb hb=>⟨by omega,λo e9=>by have:=(HLB b o e9).1;omega⟩
    clear htv HQQ HE2 HAQ H4
    cases tv with
    |false =>
     have HAC2:Hid (El (Ci k.x k.ci k.y k.b) (ls.take n) gs++Mm (Ci k.x k.ci k.y k.b) fl t ((pre++[s]).map (·.1))=acc):=HAC.out.trans (List.append_nil _);clear HAC
     gi_wp2_with fail
     exact⟨Vn hbA (by omega) (by omega),sD hbA (HGG _ g1) (HGG _ g2),v',by rw[HAC2.out];exact H1.out,H2,H3,HNC⟩
    | true =>
     have HAC2:Hid (El (Ci k.x k.ci k.y k.b) (ls.take n) gs++Mm (Ci k.x k.ci k.y k.b) fl t ((pre++[s]).map (·.1))=acc++[qq]):=HAC.out;clear HAC;have hal2:=(Below.refl _ W12).alloc nL (Obj.cells #[.slice qa qq.length qc] 68);have r9:W12.cell? ⟨L9,0,none⟩=some v':=H1.out.b9.cell rfl;replace H1:=iH (H1.out.below HK hal2);replace H2:=qBk H2 hal2;replace HQ:=qSl IntC.holds HQ hal2;obtain⟨vals,hrw,hlsn⟩:=H1.out.rw;have HR:=iH hrw;have HLS:=iH hlsn;have hbse:L9+1<=(W12.alloc (Obj.cells #[.slice qa qq.length qc] 68)).heap.size:=H1.out.b9.lt;clear hrw hlsn
     gi_wp2_with (first|(gi_at_builtin;refine Mq _ rfl (.tmp 54) (.tmp 56) 109 rfl (L9+1) 68 i0 _ 1 24 underlying109 hi hz0 hz1 hz2 rfl (by decide) v' acc.length vals rfl HR ⟨W12.heap.size,0,none⟩ 1 1 [.slice qa qq.length qc] rfl rfl (Wx (by simp)) (by intro u hu;rw[List.mem_singleton.1 hu];rfl) (by omega) (by unfold maxLen;omega) (by omega) hbse ?_;intro gw cap2 w2 hown hgrow hto hgl;have HB9:Hid (Blk L9 #[v'] 109 w2):=(hgrow.block L9 hbse (λe9=>by have:=(H1.out.own e9.symm).1;omega)).trans H1.out.b9;have r8:w2.cell? ⟨L9,0,none⟩=some v':=HB9.out.cell rfl;have f8:w2.frozen? ⟨L9,0,none⟩=false:=HB9.out.frozen 0))
     refine⟨(Vn hbA (by omega) (by omega)).trans ((rQ hal2).trans (yP HR hgrow H1.out.b9)),(sD hbA (HGG _ g1) (HGG _ g2)).trans ((KpG.of_below hal2).trans (zA hgrow ?_ ?_)),.slice (some ⟨gw,0,none⟩) (acc.length+1) cap2,?_,?_,?_,HNC⟩
     .exact⟨by omega,λo e9=>by have:=(HLB L9 o e9).2;omega⟩
     .exact λb hb=>⟨(H3 b hb).2,λo e9=>by have:=(HLB b o e9).2;have:=(H1.out.own hb).1;omega⟩
     .rw[HAC2.out]
      exact H1.out.app HK HR HLS HQ (λb o hn e9=>⟨by have:=HQB.out b o hn e9;omega,λe8=>by have:=HQB.out b o hn e9;have:=HOW9.out b e8;omega⟩) hown hgrow hto
     .exact(Below.heap_setCell w2 _ _ E (by show E≠L9;omega)).trans ((hgrow.block E H2.out.lt (λe9=>(H3 E e9.symm).1 rfl)).trans H2)
     .intro b hb
      have e3:gw=b:=Option.some.inj hb;subst e3;rcases hto with q|q
      .exact H3.out gw q
      .have:=hal2.size
       omega
   .rintro D xs W' hD hS⟨v',h1,h2,h3,h4⟩hKD
    have hnew:LoS k w w.heap.size A L9 ag ng cg ra rc fl Ds v' (El (Ci k.x k.ci k.y k.b) (ls.take (n+1)) gs) W':=by
     rw[Xz HT.out,HGL.out,HFE.out,<-mZ (by rw[<-hS];exact h4),<-hS];exact h1
    have hlm:=hnew.mark (by omega) hKD (λb hb=>by have:=HDS.out b hb;omega);have HNW:=iH hlm;clear hlm hnew hKD;clear h1 h2 h3 h4 hS;go_wp2_with fail;exact⟨⟨n+1,v',D::Ds,_,_,_,_,_,_,_,by omega,HNW,rfl⟩,by simp[intOf];omega⟩
   .rintro D c pre W' hD hSp⟨rfl,v',pre',s,rfl,hc,hnc,h1⟩hKD
    have hnew:LoS k w w.heap.size A L9 ag ng cg ra rc fl Ds v' (El (Ci k.x k.ci k.y k.b) (ls.take (n+1)) gs) W':=by
     rw[Xz HT.out,HGL.out,HFE.out,<-mW (by rw[List.map_append]at hSp;exact hSp) hnc hc];exact h1
    have hlm:=hnew.mark (by omega) hKD (λb hb=>by have:=HDS.out b hb;omega);have HNW:=iH hlm;clear hlm hnew hKD;clear h1 hSp;refine wpIn_wide.2 ?_;go_wp2_with fail;exact⟨⟨n+1,v',D::Ds,_,_,_,_,_,_,_,by omega,HNW,rfl⟩,by simp[intOf];omega⟩
  .have hne2:n=ls.length:=by omega
   subst hne2;rw[List.take_length]at HLO;obtain⟨vals,hrw,hlsn⟩:=HLO.out.rw;have r9:wr.cell? ⟨L9,0,none⟩=some v:=HLO.out.b9.cell rfl;have hml:(El (Ci k.x k.ci k.y k.b) ls gs).length<=1000000000000:=by
    have q1:=Ui (Ci k.x k.ci k.y k.b) ls gs;rw[HGL.out]at q1;have q3:=HLM0.out.2;have q4:ls.length*last.length<=10000000000*100:=Nat.mul_le_mul hls q3;omega
   have hend:∀(W:World)(tmps:Array Value),tmps.getD 6 undef=v->LoS k w w.heap.size A L9 ag ng cg ra rc fl Ds v (Gp (Ci k.x k.ci k.y k.b) ls gs) W->LeavesInM Fence.wide 7 prog Tryz.f118 tmps (λe w'=>∃(a:OA)(c:Nat),e=.returned (.slice a (Gp (Ci k.x k.ci k.y k.b) ls gs).length c)/\SliceC LstC 1 k.L0 w' a (Gp (Ci k.x k.ci k.y k.b) ls gs)/\VS k w'/\Bt2 k.G k.m4 w w') (Ds.map λD=>{target:=.collected D,args:=#[]}) .returning W:=by
    intro W tmps ht h;refine Pr (H:=λDs W=>LoS k w w.heap.size A L9 ag ng cg ra rc fl Ds v (Gp (Ci k.x k.ci k.y k.b) ls gs) W) ?_ ?_ Ds W h
    .intro D Ds W h
     have hd:=h.ds D List.mem_cons_self;exact⟨hd.2,λo=>h.wr HK (grownBy_putObj' W D o) (λq e=>by cases e;exact⟨hd.1,_,hd.2,rfl⟩) (λD2 hD=>⟨List.mem_cons_of_mem _ hD,λe=>by cases e;exact(List.pairwise_cons.1 h.dn).1 D hD rfl⟩) (List.pairwise_cons.1 h.dn).2⟩
    .intro W h
     obtain⟨vals,q1,q2⟩:=h.rw;obtain⟨a,c,e9,q3⟩:=Xu (cS q1 (by omega:k.L0<=L9+1)) q2.v (by have:=mN (Ci k.x k.ci k.y k.b) ls gs;unfold maxLen;omega);exact⟨v,Kz rfl _ _ _ ht,a,c,by rw[<-e9],q3,h.vs,h.bt⟩
   have HEND:=iH hend;clear hend;obtain⟨acc,haq⟩:∃l,El (Ci k.x k.ci k.y k.b) ls gs=l:=⟨_,rfl⟩;rw[haq]at HLO hml hrw hlsn;have HAQ:=iH haq;clear haq;obtain⟨p,cp,hv0,hvg⟩:∃p c,v=.slice p acc.length c/\(acc≠[]->∃g,p=some ⟨g,0,none⟩):=by
    rcases hrw.2 with⟨q1,q2⟩|⟨g,cap,cur,q1,_⟩
    .exact⟨none,0,by rw[q1,q2],λq=>absurd (List.length_eq_zero_iff.1 q2) q⟩
    .exact⟨_,cap,q1,λ_=>⟨g,rfl⟩⟩
   subst hv0;by_cases hae:acc=[]
   .subst hae
    have HF:Hid (LoS k w w.heap.size A L9 ag ng cg ra rc fl Ds (.slice p ([]:List (List Nat)).length cp) (Gp (Ci k.x k.ci k.y k.b) ls gs) wr):=by
     have hF:Gp (Ci k.x k.ci k.y k.b) ls gs=[]:=by
      unfold Gp;rw[HAQ.out];simp
     show LoS _ _ _ _ _ _ _ _ _ _ _ _ _ _ _
     rw[hF];exact HLO.out
    clear hrw hlsn HLO hvg;go_wp2_with(go_at_call 151;refine(fR p cp wr).mono ?_;rintro e w9 ⟨rfl,rfl⟩);exact HEND.out _ _ rfl HF
   .obtain⟨g,rfl⟩:=hvg hae
    have HSS:=iH (gH (N:=λb=>(Value.slice (some ⟨g,0,none⟩) acc.length cp).ownBlock=some b\/b=L9) hrw (.inl rfl) hlsn hae (by omega));clear hrw hlsn hvg hml;go_wp2_with(go_at_call 151;refine HSS.out.mono ?_;rintro e w9⟨rfl,hg9,ys,us,hp,hso,hro,hls9⟩;have HS9:=iH (HLO.out.sort HK rfl hg9 hro hp.length_eq hls9);have r8:w9.cell? ⟨L9,0,none⟩=some (.slice (some ⟨g,0,none⟩) acc.length cp):=HS9.out.b9.cell rfl;clear hg9 hro hls9);exact HEND.out _ _ rfl (by rw[<-wZ (by rw[HAQ.out];exact hp) hso];exact HS9.out)
end Go.Proofs.YtpidfnfilnkhkaaGreat
