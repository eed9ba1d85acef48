import Derived.RangeFuncNested
import Derived.RangeFuncBound
import Derived.RangeFuncCalls
import Derived.RangeFuncLeaves
import Derived.Shelf.Abstract
import Derived.Shelf.RegionOpen
import Derived.OwnWalkIn
import Derived.TacticsInMore
import Derived.LoopNIn
import Derived.LoopIn
import Derived.Test.YtpidfnfilnkhkaaGreatJ27
set_option maxHeartbeats 4000000
set_option maxRecDepth 100000
namespace Go.Proofs.YtpidfnfilnkhkaaGreat
open Go.RowKit Go.WideMaps Go.Maps Tryz
structure StX where
 c:Cpy
 a8:OA
 c8:Nat
 b:Brt
 am:OA
 cm:Nat
abbrev Xw(s:StX):Array Value:=#[.agg #[.string s.c.name,.string s.c.service,.int .i64 s.c.rank,.int .i64 s.c.born,.int .i64 s.c.room,.int .i64 s.c.hold,.string s.c.select,.slice s.a8 s.c.likes.length s.c8,.int .i64 s.c.apart,.string s.c.near,.string s.c.fixed,.string s.c.at_],.agg #[.string s.b.name,.string s.b.zone,.slice s.am s.b.marks.length s.cm,.int .i64 s.b.room,.int .i64 s.b.hold,.bool s.b.closed]]
def Iw(x:Flt)(ci:Nat)(sv:BA):Nat->List StX->Prop
 |0,xs=>xs=[]
 | k+1,xs=>match x.copies[k]? with
  |some c=>if k≠ci/\c.service=sv then(match Al (brN x) c.at_ x.berths.length with
   |some j=>∃pre s,xs=pre++[s]/\s.c=c/\x.berths[j]?=some s.b/\Iw x ci sv k pre
   |none=>Iw x ci sv k xs)else Iw x ci sv k xs
  |none=>Iw x ci sv k xs
theorem Yy{x:Flt}{ci k:Nat}{sv:BA}{c:Cpy}{xs:List StX}(hk:x.copies[k]?=some c)(h:¬(k≠ci/\c.service=sv))(hc:Iw x ci sv k xs):Iw x ci sv (k+1) xs:=by
 simp only[Iw,hk];rw[if_neg h];exact hc
theorem mS{x:Flt}{ci k:Nat}{sv:BA}{c:Cpy}{xs:List StX}(hk:x.copies[k]?=some c)(hj:Al (brN x) c.at_ x.berths.length=none)(hc:Iw x ci sv k xs):Iw x ci sv (k+1) xs:=by
 simp only[Iw,hk,hj]
 split<;>exact hc
theorem oX{x:Flt}{ci k j:Nat}{sv:BA}{s:StX}{xs:List StX}(hk:x.copies[k]?=some s.c)(h:k≠ci/\s.c.service=sv)(hj:Al (brN x) s.c.at_ x.berths.length=some j)(hb:x.berths[j]?=some s.b)(hc:Iw x ci sv k xs):Iw x ci sv (k+1) (xs++[s]):=by
 simp only[Iw,hk,hj];rw[if_pos h];exact⟨xs,s,rfl,rfl,hb,hc⟩
def ItIn(p m1 Bs Bv ci:Nat)(x:Flt)(a1:OA)(c1:Nat)(a3:OA)(c3:Nat)(sv:BA)(w:World):Prop :=
 w.cell? ⟨Bs,0,none⟩=some (.pointer (some ⟨p,0,none⟩))/\w.cell? ⟨Bs,1,none⟩=some (.int .i64 ci)/\w.cell? ⟨Bv,0,none⟩=some (.string sv)/\w.cell? ⟨p,1,none⟩=some (.slice a1 x.berths.length c1)/\w.cell? ⟨p,3,none⟩=some (.slice a3 x.copies.length c3)/\w.cell? ⟨p,4,none⟩=some (.map (some m1))/\w.ownsMap prog 9 (plainElem prog 3) m1 x.berths.length (Ah (brN x) x.berths.length)
theorem ItIn.below{p m1 Bs Bv ci:Nat}{x:Flt}{a1:OA}{c1:Nat}{a3:OA}{c3:Nat}{sv:BA}{w w':World}(h:ItIn p m1 Bs Bv ci x a1 c1 a3 c3 sv w)(hb:Below w.heap.size w w'):ItIn p m1 Bs Bv ci x a1 c1 a3 c3 sv w':=by
 obtain⟨h0,h1,h2,h3,h4,h5,h6⟩:=h;exact⟨(hb.cell (p:=⟨Bs,0,none⟩) (block_lt_of_cell h0)).trans h0,(hb.cell (p:=⟨Bs,1,none⟩) (block_lt_of_cell h1)).trans h1,(hb.cell (p:=⟨Bv,0,none⟩) (block_lt_of_cell h2)).trans h2,(hb.cell (p:=⟨p,1,none⟩) (block_lt_of_cell h3)).trans h3,(hb.cell (p:=⟨p,3,none⟩) (block_lt_of_cell h4)).trans h4,(hb.cell (p:=⟨p,4,none⟩) (block_lt_of_cell h5)).trans h5,Af h6 hb h6.lt⟩
theorem ItIn.but{p m1 Bs Bv ci:Nat}{x:Flt}{a1:OA}{c1:Nat}{a3:OA}{c3:Nat}{sv:BA}{w w':World}{g n₀:Nat}(h:ItIn p m1 Bs Bv ci x a1 c1 a3 c3 sv w)(hb:But g n₀ w w')(k1:Bs<n₀/\Bs≠g)(k2:Bv<n₀/\Bv≠g)(k3:p<n₀/\p≠g)(k4:m1<n₀/\m1≠g):ItIn p m1 Bs Bv ci x a1 c1 a3 c3 sv w':=by
 obtain⟨h0,h1,h2,h3,h4,h5,es,clock,e1,e2,e3,e4⟩:=h;exact⟨(hb.cell (a:=⟨Bs,0,none⟩) k1.1 k1.2).trans h0,(hb.cell (a:=⟨Bs,1,none⟩) k1.1 k1.2).trans h1,(hb.cell (a:=⟨Bv,0,none⟩) k2.1 k2.2).trans h2,(hb.cell (a:=⟨p,1,none⟩) k3.1 k3.2).trans h3,(hb.cell (a:=⟨p,3,none⟩) k3.1 k3.2).trans h4,(hb.cell (a:=⟨p,4,none⟩) k3.1 k3.2).trans h5,es,clock,(hb.block m1 k4.1 k4.2).trans e1,e2,e3,e4⟩
theorem Lj(w:World):w.grownBy w.drew none:=⟨rfl,rfl,rfl,Nat.le_refl _,λ_ _ _=>rfl⟩
theorem Mc(p m1 Bs Bv ci g n₀:Nat)(x:Flt)(a1:OA)(c1:Nat)(a3:OA)(c3:Nat)(sv:BA)(lo:Nat)(W0 w:World)(hW:Below W0.heap.size W0 w)(n1:SliceC BrtC 6 lo W0 a1 x.berths)(n3:SliceC CpyC 12 lo W0 a3 x.copies)(hI:ItIn p m1 Bs Bv ci x a1 c1 a3 c3 sv w)(l3:x.copies.length<=60)(hn0:W0.heap.size<=n₀)(hg:W0.heap.size<=g)(hn:n₀<=w.heap.size)(k1:Bs<n₀/\Bs≠g)(k2:Bv<n₀/\Bv≠g)(k3:p<n₀/\p≠g)(k4:m1<n₀/\m1≠g) :
  SeqStopsK Fence.wide 5 prog 188 #[.pointer (some ⟨Bs,0,none⟩),.pointer (some ⟨Bv,0,none⟩)] Xw (But g n₀) (Iw x ci sv x.copies.length) (λpre=>∃k,k<=x.copies.length/\Iw x ci sv k pre) 60 w:=by
 intro l J Jx W hbW hJ _ hY h0;refine callsIn_wide.2 ?_;have N1:=iH n1;have N3:=iH n3;have HW:=iH (qTr hW hbW);have HI:=iH (hI.below hbW);have HY:=iH hY;have HJ:=iH hJ;have H0:=iH h0;have hWs:n₀<=W.heap.size:=lT hn hbW.size;obtain⟨i0,i1,i2,i3,i4,i5,i6⟩:=HI.out;clear n1 n3 hW i6 hI hbW hJ hY h0;show Calls prog 188 #[.func (.yield l) #[] #[],.pointer (some ⟨Bs,0,none⟩),.pointer (some ⟨Bv,0,none⟩)] W _
 go_enter func188,ntmps188
 go_wp2
 go_loopw [15] (λi wr=>∃(k:Nat)(pre:List StX),k<=x.copies.length/\i=.int .i64 k/\pre.length<=k/\Hid (Iw x ci sv k pre)/\Hid (J pre wr)/\Hid (ItIn p m1 Bs Bv ci x a1 c1 a3 c3 sv wr)/\Hid (Below W0.heap.size W0 wr)/\W.heap.size<=wr.heap.size) (λi _=>x.copies.length-(intOf i).toNat)
 case atStart=>exact⟨0,[],zL,rfl,Nat.le_refl _,rfl,H0,HI,HW,Nat.le_refl _⟩
 case round =>
  clear HI HW i0 i1 i2 i3 i4 i5 H0;obtain⟨k,pre,hk,rfl,hpl,hC,hJ,hI,hB,hws⟩:=hrel;by_cases hlt:k<x.copies.length
  .obtain⟨c,hck⟩:=gXe hlt
   obtain⟨cb,co,rfl,_,_,hc⟩:=(N3.out.below CpyC.holds hB.out nL).at hck;obtain⟨a8,c8,q0,q1,q2,q3,q4,q5,q6,q7,q8,q9,q10,q11,z0,z1,z6,z9,z10,z11,z7⟩:=hc;simp only[Nat.add_zero]at q0 q1 q2 q3 q4 q5 q6 q7 q8 q9 q10 q11;have HRA:Hid (wr.rangeAt cb (co+k*12) (ccL c a8 c8)):=Aa q0 (Aa q1 (Aa q2 (Aa q3 (Aa q4 (Aa q5 (Aa q6 (Aa q7 (Aa q8 (Aa q9 (Aa q10 (Aa q11 (Ao _ _ _))))))))))));have HX:=iH hck;have Z11:=iH z11;clear hck q0 q1 q2 q3 q4 q5 q6 q7 q8 q9 q10 q11 z0 z1 z6 z7 z9 z10 z11;go_upto_region 3 with(first|(refine qLr Jg HRA ?_));have hbx:=(Below.refl _ wr).alloc nL (Obj.cells (ccA c a8 c8) 49);have HX4:=iH (Blk.alloc wr (ccA c a8 c8) 49);have HI4:=iH (hI.out.below hbx);have HB4:=qTH hB hbx;have HJ4:Hid (J pre (wr.alloc (Obj.cells (ccA c a8 c8) 49))):=HJ.out pre wr _ none hJ.out (World.grownBy_alloc wr _ none) (λr e=>by cases e);have hws4:W.heap.size<=(wr.alloc (Obj.cells (ccA c a8 c8) 49)).heap.size:=lT hws hbx.size;clear HRA hbx hI hB hJ hws;generalize(wr.alloc (Obj.cells (ccA c a8 c8) 49))=w4 at *;obtain⟨i0,i1,i2,i3,i4,i5,i6⟩:=HI4.out;have g1:w4.cell? ⟨wr.heap.size,1,none⟩=some (.string c.service):=HX4.out.cell rfl;have g11:w4.cell? ⟨wr.heap.size,11,none⟩=some (.string c.at_):=HX4.out.cell rfl;by_cases hkc:k=ci
   .have hkc':((k:Nat):Int)=(ci:Int):=by omega
    have HCS:=iH (Yy (sv:=sv) HX (λh=>h.1 hkc) hC.out);clear hkc i6
    go_wp2
    go_roundw
    case rel=>exact⟨k+1,pre,by omega,by go_num,by omega,HCS,HJ4,HI4,HB4,hws4⟩
    case measure=>simp[intOf];omega
   have hkc':¬((k:Nat):Int)=(ci:Int):=by omega
   by_cases hsv:c.service=sv
   .have hts:=Br hsv
    have HSV:=iH hsv;clear hsv;have yl:=Av (s:=c.at_) i6.drew Z11;clear i6
    cases hj:Al (brN x) c.at_ x.berths.length with
    |none =>
     rw[hj]at yl;simp only[Option.isSome_none,Option.getD_none]at yl;have HCS:=iH (mS (ci:=ci) (sv:=sv) HX hj hC.out);have HJ5:Hid (J pre w4.drew.drew):=HJ.out pre _ _ none (HJ pre _ _ none HJ4 (Lj _) (λr e=>by cases e)) (Lj _) (λr e=>by cases e);clear hj;go_wp2_with fail
     go_region
     go_wp2_with fail
     go_region
     go_wp2
     go_roundw
     case rel=>exact⟨k+1,pre,by omega,by go_num,by omega,HCS,HJ5,HI4.out.below ((Below.refl _ _).drew.drew),HB4.out.drew.drew,hws4⟩
     case measure=>simp[intOf];omega
    | some j =>
     obtain⟨hjl,_⟩:=Du hj;obtain⟨b,hb⟩:=gXe hjl;obtain⟨bb,bo,rfl,_,_,hbc⟩:=(N1.out.below BrtC.holds HB4 nL).at hb;obtain⟨am,cm,t0,t1,t2,t3,t4,t5,_,_,nM⟩:=hbc;simp only[Nat.add_zero]at t0;have HCS:=iH (oX (s:=⟨c,a8,c8,b,am,cm⟩) HX ⟨hkc,HSV⟩ hj hb hC.out);rw[hj]at yl;simp only[Option.isSome_some,Option.getD_some]at yl;clear hb hj nM;go_wp2_with fail
     go_region
     clear yl;go_upto_region 5 with fail;have h0:w4.cell? ⟨wr.heap.size,0,none⟩=some (.string c.name):=HX4.out.cell rfl;have h2:w4.cell? ⟨wr.heap.size,2,none⟩=some (.int .i64 c.rank):=HX4.out.cell rfl;have h3:w4.cell? ⟨wr.heap.size,3,none⟩=some (.int .i64 c.born):=HX4.out.cell rfl;have h4:w4.cell? ⟨wr.heap.size,4,none⟩=some (.int .i64 c.room):=HX4.out.cell rfl;have h5:w4.cell? ⟨wr.heap.size,5,none⟩=some (.int .i64 c.hold):=HX4.out.cell rfl;have h6:w4.cell? ⟨wr.heap.size,6,none⟩=some (.string c.select):=HX4.out.cell rfl;have h7:w4.cell? ⟨wr.heap.size,7,none⟩=some (.slice a8 c.likes.length c8):=HX4.out.cell rfl;have h8:w4.cell? ⟨wr.heap.size,8,none⟩=some (.int .i64 c.apart):=HX4.out.cell rfl;have h9:w4.cell? ⟨wr.heap.size,9,none⟩=some (.string c.near):=HX4.out.cell rfl;have h10:w4.cell? ⟨wr.heap.size,10,none⟩=some (.string c.fixed):=HX4.out.cell rfl;obtain⟨fn,tmps,assign,body,hy,hR⟩:=HY.out pre ⟨c,a8,c8,b,am,cm⟩ w4.drew.drew (HJ pre _ _ none (HJ pre _ _ none HJ4 (Lj _) (λr e=>by cases e)) (Lj _) (λr e=>by cases e)) (by omega);dsimp only[Xw]at hy
     have hR':=hR.mono (R':=λe W'=>∃q,e=.returned (.bool q)/\Hid ((q=true/\J (pre++[⟨c,a8,c8,b,am,cm⟩]) W'/\But g n₀ w4.drew.drew W')\/(q=false/\Jx (pre++[⟨c,a8,c8,b,am,cm⟩]) W'))) (by
      rintro e W' (⟨h1,h2,h3⟩|⟨h1,h2⟩)
      .exact⟨true,h1,Or.inl ⟨rfl,h2,h3⟩⟩
      .exact⟨false,h1,Or.inr ⟨rfl,h2⟩⟩)
     clear hR;refine(wpIn_wide (n:=5)).1 ?_
     gi_region_with (refine hR'.mono ?_;rintro e W' ⟨q,rfl,hq⟩)
     all_goals
      clear hR' hy
      cases q with
      | true =>
       have HQ:Hid (J (pre++[⟨c,a8,c8,b,am,cm⟩]) W'/\But g n₀ w4.drew.drew W'):=by
        rcases hq.out with h|h
        .exact h.2
        .cases h.1
       clear hq
       go_wp2
       go_roundw
       case rel =>
        have hbt:=HQ.out.2;refine⟨k+1,_,by omega,by go_num,by simp;omega,HCS,HQ.out.1,((HI4.out.below ((Below.refl _ _).drew.drew)).but hbt k1 k2 k3 k4),HB4.out.drew.drew.trans (hbt.below hn0 hg),lT hws4 hbt.size⟩
       case measure=>simp[intOf];omega
      | false =>
       have HQ:Hid (Jx (pre++[⟨c,a8,c8,b,am,cm⟩]) W'):=by
        rcases hq.out with h|h
        .cases h.1
        .exact h.2
       clear hq;go_wp2_with fail;refine bodyPost_ret (results_none rfl _ _ _) rfl ?_;exact⟨⟨_,rfl⟩,Or.inr ⟨_,⟨k+1,by omega,HCS⟩,HQ⟩⟩
   .have hts:=Bu hsv
    have HCS:=iH (Yy (ci:=ci) HX (λh=>hsv h.2) hC.out);clear hsv i6
    go_wp2
    go_roundw
    case rel=>exact⟨k+1,pre,by omega,by go_num,by omega,HCS,HJ4,HI4,HB4,hws4⟩
    case measure=>simp[intOf];omega
  .have hke:k=x.copies.length:=by omega
   subst hke;go_wp2_with fail
   go_end0
   exact⟨⟨_,rfl⟩,Or.inl ⟨pre,hC.out,hJ.out⟩⟩
theorem Pn(sp:Array Value)(sv:BA)(w:World) :
  Calls prog 169 #[.agg sp,.string sv] w λe w'=>e=.returned (.func (.func 188) #[] #[.pointer (some ⟨w.heap.size,0,none⟩),.pointer (some ⟨w.heap.size+1,0,none⟩)])/\w'=(w.alloc (Obj.cells sp 60)).alloc (Obj.cells #[.string sv] 9):=by
 go_enter func169,ntmps169
 go_wp2
 go_ret;exact⟨rfl,rfl⟩
def setRow(cs:Array Value):Nat->List Value->Array Value
 |_,[]=>cs
 |o,v::r=>setRow (cs.setIfInBounds o v) (o+1) r
theorem Ny(v:Value):∀(l:List Value)(o:Nat),o<l.length->(l.set o v).take (o+1)=l.take o++[v]
 |[],_,h=>by simp at h
 |a::l,0,_=>by simp
 |a::l,o+1,h=>by
  have ih:=Ny v l o (by simpa using h);simp[ih]
theorem Rz:∀(vs:List Value)(cs:Array Value)(o:Nat),o+vs.length=cs.size->(setRow cs o vs).toList=cs.toList.take o++vs
 |[],cs,o,h=>by
  have:cs.toList.length<=o:=by simp at h;simp;omega
  simp[setRow,List.take_of_length_le this]
 |v::r,cs,o,h=>by
  have h':o+(r.length+1)=cs.size:=by simpa using h
  have ih:=Rz r (cs.setIfInBounds o v) (o+1) (by simp;omega);simp only[setRow];rw[ih,Array.toList_setIfInBounds,Ny v _ _ (by simp;omega)];simp
theorem jL(vs:List Value)(cs:Array Value)(h:vs.length=cs.size):setRow cs 0 vs=vs.toArray:=by
 have:=Rz vs cs 0 (by omega);apply Array.toList_inj.1;rw[this];simp
theorem Blk.setRow{g:Nat}{t:TypeId}:∀(vs:List Value)(o:Nat)(cs:Array Value)(w:World),Blk g cs t w->Blk g (setRow cs o vs) t (w.setCells g o vs)
 |[],_,_,_,h=>h
 |v::r,o,_,_,h=>Blk.setRow r (o+1) _ _ (h.set o v)
theorem Blk.setAll{g:Nat}{cs:Array Value}{t:TypeId}{w:World}(h:Blk g cs t w)(vs:Array Value)(hl:vs.size=cs.size):Blk g vs t (w.setCells g 0 vs.toList):=by
 have:=h.setRow vs.toList 0;rw[jL vs.toList cs (by simpa using hl)]at this;simpa using this
theorem Blk.grown{g:Nat}{cs:Array Value}{t:TypeId}{w w':World}{row:Option Nat}(h:Blk g cs t w)(hg:w.grownBy w' row)(hr:some g≠row):Blk g cs t w':=(hg.block g h.lt hr).trans h
attribute [local go_sem] Oper.semAt_some
theorem Iq{α:Type}{f:α->Bool}{pre:List α}{s:α}(h:pre.any f=false)(hs:f s=false):(pre++[s]).any f=false:=by simp only[List.any_append,h,List.any_cons,hs,List.any_nil,Bool.or_false]
theorem Lz{α:Type}{f:α->Bool}{pre:List α}{s:α}(hs:f s=true):(pre++[s]).any f=true:=by simp only[List.any_append,List.any_cons,hs,List.any_nil,Bool.or_false,Bool.or_true]
theorem Dt{fn:Func}{p:Tmp}(h:fn.results=#[.cell p 4])(tmps:Array Value)(w:World)(g:Nat)(q:Bool)(hp:tmps.getD p undef=.pointer (some ⟨g,0,none⟩))(hc:w.cell? ⟨g,0,none⟩=some (.bool q)) :
  (results fn tmps).run prog w=.ok (.bool q) w:=by
 have hp':tmps[p]?.getD undef=.pointer (some ⟨g,0,none⟩):=by simpa using hp
 have hl:(loadVar 4 ⟨g,0,none⟩).run prog w=.ok (.bool q) w:=by simp[go_sem,hc]
 simp[results,h,hp',asAddr,hl]
def mxI(a c:Int):Int:=if a<c then c else a
def Ly(y:Cpy)(b:Brt)(s:StX):Bool:=(decide (mxI y.apart s.c.apart≠0)&&decide (s.b.name=b.name))||(decide (mxI y.apart s.c.apart=2)&&decide (s.b.zone=b.zone))
def Lt(y:Cpy)(b:Brt)(xs:List StX)(q:Bool):Prop:=xs.any (Ly y b)=q
theorem Tk{y:Cpy}{b:Brt}{s:StX}(h1:mxI y.apart s.c.apart≠0)(h2:s.b.name=b.name):Ly y b s=true:=by
 unfold Ly;rw[decide_eq_true h1,decide_eq_true h2];rfl
theorem Vk{y:Cpy}{b:Brt}{s:StX}(h1:mxI y.apart s.c.apart=2)(h2:s.b.zone=b.zone):Ly y b s=true:=by
 unfold Ly;rw[decide_eq_true h1,decide_eq_true h2];simp
theorem Ki{y:Cpy}{b:Brt}{s:StX}(h1:¬(mxI y.apart s.c.apart≠0/\s.b.name=b.name))(h2:¬(mxI y.apart s.c.apart=2/\s.b.zone=b.zone)):Ly y b s=false:=by
 unfold Ly;rw[Bool.or_eq_false_iff,Bool.and_eq_false_iff,Bool.and_eq_false_iff];constructor
 .by_cases h:mxI y.apart s.c.apart≠0
  .exact Or.inr (decide_eq_false (λe=>h1 ⟨h,e⟩))
  .exact Or.inl (decide_eq_false h)
 .by_cases h:mxI y.apart s.c.apart=2
  .exact Or.inr (decide_eq_false (λe=>h2 ⟨h,e⟩))
  .exact Or.inl (decide_eq_false h)
theorem tM{y:Cpy}{b:Brt}{s:StX}{zo:BA}(h1:0<=y.apart/\y.apart<=2)(h2:0<=s.c.apart/\s.c.apart<=2)(hn:s.b.name=s.c.at_)(hz:zo=s.b.zone):Ly y b s=Ls s.c.apart y.apart (decide (s.c.at_=b.name)) (decide (zo=b.zone)):=by
 unfold Ly Ls;rw[hn,hz];have e1:decide (mxI y.apart s.c.apart≠0)=(decide (s.c.apart≠0)||decide (y.apart≠0)):=by
  rw[Bool.eq_iff_iff];simp only[decide_eq_true_eq,Bool.or_eq_true];unfold mxI
  split<;>omega
 have e2:decide (mxI y.apart s.c.apart=2)=(decide (s.c.apart=2)||decide (y.apart=2)):=by
  rw[Bool.eq_iff_iff];simp only[decide_eq_true_eq,Bool.or_eq_true];unfold mxI
  split<;>omega
 rw[e1,e2,Bool.and_comm,Bool.and_comm (_||_) (decide (s.b.zone=b.zone))]
theorem Js{x:Flt}(hv:Au x=true)(ci:Nat)(y:Cpy)(b:Brt)(hya:0<=y.apart/\y.apart<=2):∀n xs,Iw x ci y.service n xs->Cd (Nw x ci y b) n=xs.any (Ly y b)
 |0,xs,h=>by
  have:xs=[]:=h;subst this;rfl
 | n+1,xs,h=>by
  obtain⟨_,hbN,hbr,hcp⟩:=Bb hv
  cases hc:x.copies[n]? with
  |none =>
   simp only[Iw,hc]at h;rw[Bg (by unfold Nw;rw[hc])];exact Js hv ci y b hya n xs h
  | some c =>
   simp only[Iw,hc]at h;by_cases hcd:n≠ci/\c.service=y.service
   .rw[if_pos hcd]at h
    cases hj:Al (brN x) c.at_ x.berths.length with
    | none =>
     rw[hj]at h;have hat:c.at_=⟨#[]⟩:=by
      rcases(hcp n c hc).2.2 with e|⟨s,e⟩
      .exact e
      .rw[hj]at e;cases e
     rw[Bg (Jm hc (λk=>k.2.2.1 hat))];exact Js hv ci y b hya n xs h
    | some j =>
     rw[hj]at h;obtain⟨pre,s,rfl,hsc,hsb,hpre⟩:=h;have ih:=Js hv ci y b hya n pre hpre;obtain⟨b',hb',hbn,hbz⟩:=aO hbN hj;rw[hsb]at hb';cases hb'
     have hat:¬c.at_=⟨#[]⟩:=by
      intro e;rw[e,kT hbr]at hj;cases hj
     have hne:=tM (y:=y) (b:=b) (s:=s) (zo:=Dc x.berths c.at_) hya (by rw[hsc];exact((De hv).1 n c hc).2) (by rw[hsc];exact hbn) hbz;rw[hsc]at hne;rw[List.any_append,<-ih]
     cases hq:Ly y b s with
     |true =>
      rw[hq]at hne;rw[Fb (Qc hc hcd.1 hcd.2 hat hne.symm)];simp[hq]
     |false =>
      rw[hq]at hne;rw[Bg (Jm hc (λk=>by rw[<-hne]at k;cases k.2.2.2))];simp[hq]
   .rw[if_neg hcd]at h
    rw[Bg (Jm hc (λk=>hcd ⟨k.1,k.2.1⟩))];exact Js hv ci y b hya n xs h
theorem Zv(W:World)(lo p m1 m2 m3 m4 ci bi:Nat)(x:Flt)(a1:OA)(c1:Nat)(a2:OA)(c2:Nat)(a3:OA)(c3:Nat)(y:Cpy)(a7:OA)(c7:Nat)(b:Brt)(am:OA)(cm:Nat)(u1 u2 u3:Int)(hK:SpotK W lo ci bi x a1 a3 y a7 b am) :
  mU 139 (Gn x ci y b) W p m1 m2 m3 m4 ci bi x a1 c1 a2 c2 a3 c3 y a7 c7 b am cm u1 u2 u3:=by
 intro w hW hF;obtain⟨n1,n3,n7,nm,hv,hy,hb⟩:=hK;obtain⟨_,l3,_,_,_,_⟩:=Aw hv;obtain⟨_,_,hbr,hcp⟩:=Bb hv;obtain⟨hbn,hbz,_,_⟩:=hbr bi b hb;have HBN:=iH (Iy hbn);have HAP:=iH (De hv).1;have HW:=iH hW;have HF:=iH hF;have N1:=iH n1;have N3:=iH n3;have HV:=iH hv;have HY:=iH hy;have HB:=iH hb;have hpl:p<w.heap.size:=hF.2.1;have hm1w:m1<w.heap.size:=hF.2.2.1.lt;have hm4w:m4<w.heap.size:=hF.memo.lt;have hwW:W.heap.size<=w.heap.size:=hW.size;clear hbn hbz hbr hcp hW hF n1 n3 n7 nm hv hy hb;refine(callsIn_wide (n:=7)).1 ?_;refine callsIn_of_wp_marks func139 rfl trivial ?_ rfl;refine wpIn_wide.2 ?_;simp only[ntmps139,List.size_toArray,List.length_cons,List.length_nil,Nat.reduceAdd,Nat.reduceSub,Array.replicate_succ,Array.replicate_zero,List.push_toArray,List.append_toArray,List.nil_append,List.cons_append];go_upto_region 1 with fail;have e0:Blk w.heap.size (Ai p ci bi y a7 c7 b am cm u1 u2 u3) 60 ((w.alloc (Obj.cells (Ai p ci bi y a7 c7 b am cm u1 u2 u3) 60)).alloc (Obj.cells #[.bool false] 4)):=(Blk.alloc w (Ai p ci bi y a7 c7 b am cm u1 u2 u3) 60).below ((Below.refl _ _).alloc nL _) (Blk.alloc w (Ai p ci bi y a7 c7 b am cm u1 u2 u3) 60).lt;have e1:Blk (w.heap.size+1) #[.bool false] 4 ((w.alloc (Obj.cells (Ai p ci bi y a7 c7 b am cm u1 u2 u3) 60)).alloc (Obj.cells #[.bool false] 4)):=by
  have h:=Blk.alloc (w.alloc (Obj.cells (Ai p ci bi y a7 c7 b am cm u1 u2 u3) 60)) #[.bool false] 4;simpa using h
 have e2:Below w.heap.size w ((w.alloc (Obj.cells (Ai p ci bi y a7 c7 b am cm u1 u2 u3) 60)).alloc (Obj.cells #[.bool false] 4)):=((Below.refl _ w).alloc nL _).alloc (by simp) _;have HS1:=iH e0;have HZ1:=iH e1;have HB1:=iH e2;clear e0 e1 e2;generalize((w.alloc (Obj.cells (Ai p ci bi y a7 c7 b am cm u1 u2 u3) 60)).alloc (Obj.cells #[.bool false] 4))=w1 at *;have HF1:=iH (HF.out.below HB1);have hsz1:w.heap.size+1<w1.heap.size:=HZ1.out.lt;have s3:w1.cell? ⟨w.heap.size,3,none⟩=some (.string y.service):=HS1.out.cell rfl;go_wp2_with(first|(refine wpList_load_mid rfl 60 _ rfl w.heap.size 0 (by first|rfl|(simp[go_sem];done)) (Ai p ci bi y a7 c7 b am cm u1 u2 u3).toList _ HS1.out.rangeA underlying60 rfl Bk ?_));refine(Pn (Ai p ci bi y a7 c7 b am cm u1 u2 u3) y.service _).mono ?_;rintro e w6⟨rfl,hw6⟩;have hb6:Below w1.heap.size w1 w6:=by rw[hw6];exact((Below.refl _ w1).alloc nL _).alloc (by simp) _
 have HX6:Hid (Blk w1.heap.size (Ai p ci bi y a7 c7 b am cm u1 u2 u3) 60 w6):=by
  rw[hw6];exact(Blk.alloc w1 _ _).below ((Below.refl _ _).alloc nL _) (Blk.alloc w1 _ _).lt
 have HV6:Hid (Blk (w1.heap.size+1) #[.string y.service] 9 w6):=by
  rw[hw6];have h:=Blk.alloc (w1.alloc (Obj.cells (Ai p ci bi y a7 c7 b am cm u1 u2 u3) 60)) #[.string y.service] 9;show Blk _ _ _ _
  simpa using h
 have hF6:=HF1.out.below hb6;have HIT:Hid (ItIn p m1 w1.heap.size (w1.heap.size+1) ci x a1 c1 a3 c3 y.service w6):=⟨HX6.out.cell rfl,HX6.out.cell rfl,HV6.out.cell rfl,hF6.1 1 _ rfl,hF6.1 3 _ rfl,hF6.1 4 _ rfl,hF6.2.2.1⟩;have HS6:Hid (Blk w.heap.size (Ai p ci bi y a7 c7 b am cm u1 u2 u3) 60 w6):=HS1.out.below hb6 HS1.out.lt;have HZ6:Hid (Blk (w.heap.size+1) #[.bool false] 4 w6):=HZ1.out.below hb6 HZ1.out.lt;have HQ6:=qTH HB1 hb6;have HW6:=iH (HW.out.trans (HQ6.out.mono HW.out.size));have hs6:w1.heap.size+1<w6.heap.size:=HV6.out.lt;clear hw6 hb6 hF6 HX6 HV6 s3 HS1 HZ1 HF1;go_wp2_with fail
 refine wpIn_wide.1 (wpIn_rangeFunc_ownH (F:=Fence.wide) (n:=6) rfl (by omega) (gf:=188) (lb:=#[.pointer (some ⟨w1.heap.size,0,none⟩),.pointer (some ⟨w1.heap.size+1,0,none⟩)]) rfl trivial (enters_of func188 (by kernel_rfl) rfl)
  (Mc p m1 w1.heap.size (w1.heap.size+1) ci (w.heap.size+1) w6.heap.size x a1 c1 a3 c3 y.service lo W w6 HW6 N1 N3 HIT l3 HW6.out.size (by omega) nL ⟨by omega,by omega⟩ ⟨by omega,by omega⟩ ⟨by omega,by omega⟩ ⟨by omega,by omega⟩)
  (λh1 h2=>h1.trans h2) (λW' l' o o' hl _ _ _=>⟨rfl,rfl,rfl,(grownBy_putObj' W' l' o').size,λk hk _=>World.putObj_heap_other (by omega)⟩) (Below.refl _ _) (λ_=>rfl)
  (λpre W'=>Blk w.heap.size (Ai p ci bi y a7 c7 b am cm u1 u2 u3) 60 W'/\Blk (w.heap.size+1) #[.bool false] 4 W'/\Below w.heap.size w W'/\w6.heap.size<=W'.heap.size/\Lt y b pre false)
  (λc pre W'=>c=Code.ret/\Blk (w.heap.size+1) #[.bool true] 4 W'/\Below w.heap.size w W'/\w6.heap.size<=W'.heap.size/\Lt y b pre true) ?_ ?_ ?_
  (λs a' W'=>∃Cx Bx,w6.heap.size<=Cx/\w6.heap.size<=Bx/\Blk Cx #[.string s.c.name,.string s.c.service,.int .i64 s.c.rank,.int .i64 s.c.born,.int .i64 s.c.room,.int .i64 s.c.hold,.string s.c.select,.slice s.a8 s.c.likes.length s.c8,.int .i64 s.c.apart,.string s.c.near,.string s.c.fixed,.string s.c.at_] 49 W'/\Blk Bx #[.string s.b.name,.string s.b.zone,.slice s.am s.b.marks.length s.cm,.int .i64 s.b.room,.int .i64 s.b.hold,.bool s.b.closed] 52 W'/\a'={tmps:=#[.agg (Ai p ci bi y a7 c7 b am cm u1 u2 u3),.pointer (some ⟨w.heap.size,0,none⟩),.pointer (some ⟨w.heap.size+1,0,none⟩),.pointer (some ⟨Cx,0,none⟩),.pointer (some ⟨Bx,0,none⟩),undef,.agg (Ai p ci bi y a7 c7 b am cm u1 u2 u3),.pointer (some ⟨w.heap.size,2,none⟩),.pointer (some ⟨w.heap.size,3,none⟩),.string y.service,.func (.func 188) #[] #[.pointer (some ⟨w1.heap.size,0,none⟩),.pointer (some ⟨w1.heap.size+1,0,none⟩)],(Xw s)[0],(Xw s)[1],undef,undef,undef,undef,undef,undef,undef,undef,undef,undef,undef,undef,undef,undef,undef,undef,undef,undef,undef,undef,undef,undef,undef,undef,undef,undef],defers:=[]}) ?_ ?_ ?_ ?_ ?_)
 .rintro s A B row⟨h1,h2,h3,h4,h5⟩hgr hr
  have hne:∀k,k<w6.heap.size->some k≠row:=λk hk e=>by have:=(hr _ e.symm).1;omega
  exact⟨h1.grown hgr (hne _ (by omega)),h2.grown hgr (hne _ (by omega)),h3.grown hgr h3.size (λk e=>lT HQ6.out.size (hr k e).1),lT h4 hgr.size,h5⟩
 .rintro c s A B row⟨h0,h2,h3,h4,h5⟩hgr hr
  have hne:∀k,k<w6.heap.size->some k≠row:=λk hk e=>by have:=(hr _ e.symm).1;omega
  exact⟨h0,h2.grown hgr (hne _ (by omega)),h3.grown hgr h3.size (λk e=>lT HQ6.out.size (hr k e).1),lT h4 hgr.size,h5⟩
 .exact⟨HS6,HZ6,HQ6,Nat.le_refl _,rfl⟩
 .rintro s a' _ A B row⟨Cx,Bx,h1,h2,h3,h4,h5⟩hgr hr
  refine⟨Cx,Bx,h1,h2,h3.grown hgr (λe=>?_),h4.grown hgr (λe=>?_),h5⟩
  .obtain⟨_,o,ho,hc⟩:=hr _ e.symm
   rw[show A.heap[Cx]?=_ from h3]at ho;cases ho
   cases hc
  .obtain⟨_,o,ho,hc⟩:=hr _ e.symm
   rw[show A.heap[Bx]?=_ from h4]at ho;cases ho
   cases hc
 .rintro l' pre s W' K⟨h1,h2,h3,h4,h5⟩hK
  have hKK:=iH hK;clear hK
  gi_wp2
  have hb1:Below W'.heap.size W' ((W'.alloc (Obj.cells #[.string s.c.name,.string s.c.service,.int .i64 s.c.rank,.int .i64 s.c.born,.int .i64 s.c.room,.int .i64 s.c.hold,.string s.c.select,.slice s.a8 s.c.likes.length s.c8,.int .i64 s.c.apart,.string s.c.near,.string s.c.fixed,.string s.c.at_] 49)).alloc (Obj.cells #[.string s.b.name,.string s.b.zone,.slice s.am s.b.marks.length s.cm,.int .i64 s.b.room,.int .i64 s.b.hold,.bool s.b.closed] 52)):=((Below.refl _ W').alloc nL _).alloc (by simp) _;refine hKK.out _ _ (((KeepsOthers.alloc _ _).trans (KeepsOthers.alloc _ _)).from _) (But.of_below (hb1.mono h4)) ⟨h1.below hb1 h1.lt,h2.below hb1 h2.lt,qTr h3 hb1,lT h4 hb1.size,h5⟩ ⟨W'.heap.size,W'.heap.size+1,h4,by omega,(Blk.alloc W' _ _).below ((Below.refl _ _).alloc nL _) (Blk.alloc W' _ _).lt,?_,rfl⟩;have h:=Blk.alloc (W'.alloc (Obj.cells #[.string s.c.name,.string s.c.service,.int .i64 s.c.rank,.int .i64 s.c.born,.int .i64 s.c.room,.int .i64 s.c.hold,.string s.c.select,.slice s.a8 s.c.likes.length s.c8,.int .i64 s.c.apart,.string s.c.near,.string s.c.fixed,.string s.c.at_] 49)) #[.string s.b.name,.string s.b.zone,.slice s.am s.b.marks.length s.cm,.int .i64 s.b.room,.int .i64 s.b.hold,.bool s.b.closed] 52;simpa using h
 .rintro l' pre s a' W' hl' ⟨r',hr'⟩⟨h1,h2,h3,h4,h5⟩⟨Cx,Bx,hCx,hBx,hcx,hbx,rfl⟩hlt'
  have H1:=iH h1;have H2:=iH h2;have H3:=iH h3;have H4:=iH h4;have cA:W'.cell? ⟨Cx,8,none⟩=some (.int .i64 s.c.apart):=hcx.cell rfl;have cN:W'.cell? ⟨Bx,0,none⟩=some (.string s.b.name):=hbx.cell rfl;have cZ:W'.cell? ⟨Bx,1,none⟩=some (.string s.b.zone):=hbx.cell rfl;have dA:W'.cell? ⟨w.heap.size,10,none⟩=some (.int .i64 y.apart):=h1.cell rfl;have dN:W'.cell? ⟨w.heap.size,15,none⟩=some (.string b.name):=h1.cell rfl;have dZ:W'.cell? ⟨w.heap.size,16,none⟩=some (.string b.zone):=h1.cell rfl;have r0:W'.cell? ⟨w.heap.size+1,0,none⟩=some (.bool false):=h2.cell rfl;have f0:W'.frozen? ⟨w.heap.size+1,0,none⟩=false:=h2.frozen 0;clear h1 h2 h3 h4 hr' hcx hbx;by_cases hmx:y.apart<s.c.apart
  .have hM:mxI y.apart s.c.apart=s.c.apart:=if_pos hmx
   by_cases hm0:s.c.apart=0
   .have HM:=iH hM
    clear hM;have HN:Hid (Lt y b (pre++[s]) false):=Iq h5 (Ki (λk=>k.1 (HM.out.trans hm0)) (λk=>by have:=HM.out.symm.trans k.1;omega));clear HM h5
    gi_wp2
    exact⟨(KeepsOthers.refl W').from _,But.refl _ w6.heap.size W',H1,H2,H3,H4,HN⟩
   .by_cases hnm:s.b.name=b.name
    .have tn:=Br hnm
     have HM:=iH hM;have HNM:=iH hnm;clear hM hnm;have HN:Hid (Lt y b (pre++[s]) true):=Lz (pre:=pre) (Tk (λe=>hm0 (HM.out.symm.trans e)) HNM);clear HM HNM h5
     gi_wp2
     exact⟨(KeepsOthers.setCell _ _ _).from _,rfl,H2.out.set 0 (.bool true),H3.out.setCell (p:=⟨w.heap.size+1,0,none⟩) (by show w.heap.size<=w.heap.size+1;omega) _,by simp[World.setCell];exact H4.out,HN⟩
    .have tn:=Bu hnm
     by_cases hm2:s.c.apart=2
     .by_cases hz:s.b.zone=b.zone
      .have tz:=Br hz
       have HM:=iH hM;have HZ:=iH hz;clear hM hz hnm;have HN:Hid (Lt y b (pre++[s]) true):=Lz (pre:=pre) (Vk (HM.out.trans hm2) HZ);clear HM HZ h5
       gi_wp2
       exact⟨(KeepsOthers.setCell _ _ _).from _,rfl,H2.out.set 0 (.bool true),H3.out.setCell (p:=⟨w.heap.size+1,0,none⟩) (by show w.heap.size<=w.heap.size+1;omega) _,by simp[World.setCell];exact H4.out,HN⟩
      .have tz:=Bu hz
       have HM:=iH hM;have HZ:=iH hz;have HNM:=iH hnm;clear hM hz hnm;have HN:Hid (Lt y b (pre++[s]) false):=Iq h5 (Ki (λk=>HNM.out k.2) (λk=>HZ.out k.2));clear HM HZ HNM h5
       gi_wp2
       exact⟨(KeepsOthers.refl W').from _,But.refl _ w6.heap.size W',H1,H2,H3,H4,HN⟩
     .have HM:=iH hM
      have HNM:=iH hnm;clear hM hnm;have HN:Hid (Lt y b (pre++[s]) false):=Iq h5 (Ki (λk=>HNM.out k.2) (λk=>hm2 (HM.out.symm.trans k.1)));clear HM HNM h5
      gi_wp2
      exact⟨(KeepsOthers.refl W').from _,But.refl _ w6.heap.size W',H1,H2,H3,H4,HN⟩
  .have hM:mxI y.apart s.c.apart=y.apart:=if_neg hmx
   by_cases hm0:y.apart=0
   .have HM:=iH hM
    clear hM;have HN:Hid (Lt y b (pre++[s]) false):=Iq h5 (Ki (λk=>k.1 (HM.out.trans hm0)) (λk=>by have:=HM.out.symm.trans k.1;omega));clear HM h5
    gi_wp2
    exact⟨(KeepsOthers.refl W').from _,But.refl _ w6.heap.size W',H1,H2,H3,H4,HN⟩
   .by_cases hnm:s.b.name=b.name
    .have tn:=Br hnm
     have HM:=iH hM;have HNM:=iH hnm;clear hM hnm;have HN:Hid (Lt y b (pre++[s]) true):=Lz (pre:=pre) (Tk (λe=>hm0 (HM.out.symm.trans e)) HNM);clear HM HNM h5
     gi_wp2
     exact⟨(KeepsOthers.setCell _ _ _).from _,rfl,H2.out.set 0 (.bool true),H3.out.setCell (p:=⟨w.heap.size+1,0,none⟩) (by show w.heap.size<=w.heap.size+1;omega) _,by simp[World.setCell];exact H4.out,HN⟩
    .have tn:=Bu hnm
     by_cases hm2:y.apart=2
     .by_cases hz:s.b.zone=b.zone
      .have tz:=Br hz
       have HM:=iH hM;have HZ:=iH hz;clear hM hz hnm;have HN:Hid (Lt y b (pre++[s]) true):=Lz (pre:=pre) (Vk (HM.out.trans hm2) HZ);clear HM HZ h5
       gi_wp2
       exact⟨(KeepsOthers.setCell _ _ _).from _,rfl,H2.out.set 0 (.bool true),H3.out.setCell (p:=⟨w.heap.size+1,0,none⟩) (by show w.heap.size<=w.heap.size+1;omega) _,by simp[World.setCell];exact H4.out,HN⟩
      .have tz:=Bu hz
       have HM:=iH hM;have HZ:=iH hz;have HNM:=iH hnm;clear hM hz hnm;have HN:Hid (Lt y b (pre++[s]) false):=Iq h5 (Ki (λk=>HNM.out k.2) (λk=>HZ.out k.2));clear HM HZ HNM h5
       gi_wp2
       exact⟨(KeepsOthers.refl W').from _,But.refl _ w6.heap.size W',H1,H2,H3,H4,HN⟩
     .have HM:=iH hM
      have HNM:=iH hnm;clear hM hnm;have HN:Hid (Lt y b (pre++[s]) false):=Iq h5 (Ki (λk=>HNM.out k.2) (λk=>hm2 (HM.out.symm.trans k.1)));clear HM HNM h5
      gi_wp2
      exact⟨(KeepsOthers.refl W').from _,But.refl _ w6.heap.size W',H1,H2,H3,H4,HN⟩
 .rintro D xs W' hD hcame⟨h1,h2,h3,h4,h5⟩hK
  have HT:Hid (Gn x ci y b=false):=(Js HV ci y b (HAP ci y HY).2 x.copies.length xs hcame).trans h5;have r0:W'.cell? ⟨w.heap.size+1,0,none⟩=some (.bool false):=h2.cell rfl;have f0:W'.frozen? ⟨w.heap.size+1,0,none⟩=false:=h2.frozen 0;have HR:Hid (Blk (w.heap.size+1) #[.bool false] 4 (W'.setCell ⟨w.heap.size+1,0,none⟩ (.bool false))):=h2.set 0 (.bool false);have HBL:Hid (Below w.heap.size w (W'.setCell ⟨w.heap.size+1,0,none⟩ (.bool false))):=h3.setCell (p:=⟨w.heap.size+1,0,none⟩) (by show w.heap.size<=w.heap.size+1;omega) _;have HK:Hid ((W'.setCell ⟨w.heap.size+1,0,none⟩ (.bool false)).heap[D]?=some (.deferred (some []))):=(Below.heap_setCell W' ⟨w.heap.size+1,0,none⟩ (.bool false) D (by show D≠w.heap.size+1;omega)).trans hK;clear h1 h2 h3 h4 h5 hcame hK;go_wp2_with fail;generalize W'.setCell ⟨w.heap.size+1,0,none⟩ (.bool false)=w10 at *;refine⟨by simp,.inl ⟨_,_,rfl,run_takeDeferred HK,?_⟩⟩;have hbp:∀o,Below w.heap.size w10 (w10.putObj D o):=λo=>(Below.refl w.heap.size w10).grown (grownBy_putObj' w10 D _) HBL.out.size (λk e=>by cases e;omega)
  refine⟨_,Dt rfl _ _ (w.heap.size+1) false rfl ?_,Ab HT.out.symm,?_,?_⟩
  .exact(World.cell?_of_block (w:=w10) (a:=⟨w.heap.size+1,0,none⟩) (World.putObj_heap_other (by show w.heap.size+1≠D;omega))).trans (HR.out.cell rfl)
  .exact((HF.out.memo.below HBL hm4w).below (hbp _) hm4w)
  .exact But.of_below (HBL.out.trans (hbp _))
 .rintro D c pre W' hD⟨k,hk,hcame⟩⟨rfl,h2,h3,h4,h5⟩hK
  have HT:Hid (Gn x ci y b=true):=Et _ hk ((Js HV ci y b (HAP ci y HY).2 k pre hcame).trans h5);have HR:=iH h2;have HBL:=iH h3;have HK:=iH hK;clear h2 h3 h4 h5 hcame hK;refine wpIn_wide.2 ?_;go_wp2_with fail;refine⟨by simp,.inl ⟨_,_,rfl,run_takeDeferred HK,?_⟩⟩;have hbp:∀o,Below w.heap.size W' (W'.putObj D o):=λo=>(Below.refl w.heap.size W').grown (grownBy_putObj' W' D _) HBL.out.size (λk e=>by cases e;omega)
  refine⟨_,Dt rfl _ _ (w.heap.size+1) true rfl ?_,Ab HT.out.symm,?_,?_⟩
  .exact(World.cell?_of_block (w:=W') (a:=⟨w.heap.size+1,0,none⟩) (World.putObj_heap_other (by show w.heap.size+1≠D;omega))).trans (HR.out.cell rfl)
  .exact((HF.out.memo.below HBL hm4w).below (hbp _) hm4w)
  .exact But.of_below (HBL.out.trans (hbp _))
end Go.Proofs.YtpidfnfilnkhkaaGreat
