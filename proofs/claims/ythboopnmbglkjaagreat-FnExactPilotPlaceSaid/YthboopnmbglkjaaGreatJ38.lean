import Derived.Test.YthboopnmbglkjaaGreatJ37
import Derived.OwnWalkIn
import Derived.OrdersIn
import Derived.Test.YthboopnmbglkjaaGreatJ35
import Derived.Shelf.RegionOpen
import Derived.TacticsInMore
import Derived.LoopNIn
import Derived.LoopIn
set_option maxHeartbeats 8000000
set_option maxRecDepth 100000
namespace Go.Proofs.YthboopnmbglkjaaGreat
open Go.RowKit Go.WideMaps Go.Maps Tryz
def bsC(o:Option (Nat×Brt)):Int:=match o with
 |none=>-1
 |some z=>((z.1:Nat):Int)
theorem bD(lo ci:Nat)(x:Flt)(a1:OA)(c1:Nat)(a2:OA)(c2:Nat)(a3:OA)(c3:Nat)(y:Cpy)(a7:OA)(c7:Nat)(w:World)(n1:sB lo w a1 x.berths)(n3:sC lo w a3 x.copies)(n7:sK lo w a7 y.likes)(hci:x.copies[ci]?=some y)(hv:Bb x=true)(hsel:y.select.size<=maxLen) :
  Calls prog 55 #[.agg (ffA x a1 c1 a2 c2 a3 c3),.agg (ccA y a7 c7)] w (Rt (Y (nmC (chT x ci y x.berths.length))) w):=by
 have N1:=iH n1;have N3:=iH n3;have N7:=iH n7;have HCI:=iH hci;have HV:=iH hv;have HSEL:=iH hsel;have h12:x.berths.length<=12:=(Au hv).1;clear n1 n3 n7 hci hv hsel;have HA:Hid (Blk w.heap.size (ffA x a1 c1 a2 c2 a3 c3) 32 ((w.alloc (Obj.cells (ffA x a1 c1 a2 c2 a3 c3) 32)).alloc (Obj.cells (ccA y a7 c7) 54))):=(Blk.alloc w _ _).below ((Below.refl _ _).alloc nL _) (Blk.alloc w _ _).lt;have HC:Hid (Blk (w.heap.size+1) (ccA y a7 c7) 54 ((w.alloc (Obj.cells (ffA x a1 c1 a2 c2 a3 c3) 32)).alloc (Obj.cells (ccA y a7 c7) 54))):=by
  have h:=Blk.alloc (w.alloc (Obj.cells (ffA x a1 c1 a2 c2 a3 c3) 32)) (ccA y a7 c7) 54;show Blk _ _ _ _
  simpa using h
 have hB1:=bl2 w (ffA x a1 c1 a2 c2 a3 c3) 32 (ccA y a7 c7) 54;go_enter func55,ntmps55;go_upto_region 1 with fail;generalize((w.alloc (Obj.cells (ffA x a1 c1 a2 c2 a3 c3) 32)).alloc (Obj.cells (ccA y a7 c7) 54))=w1 at *
 go_wp2
 go_loopw [5,6] (λbs i wr=>∃k:Nat,k<=x.berths.length/\i=X ((k:Nat):Int)/\bs=X (bsC (chT x ci y k))/\Hid (Blk w.heap.size (ffA x a1 c1 a2 c2 a3 c3) 32 wr)/\Hid (Blk (w.heap.size+1) (ccA y a7 c7) 54 wr)/\bW w wr) (λ_ i _=>x.berths.length-(intOf i).toNat)
 case atStart=>exact⟨0,zL,rfl,rfl,HA,HC,hB1⟩
 clear HA HC hB1;obtain⟨k,hk,rfl,rfl,HK0,HK1,hB⟩:=hrel;have f1:wr.cell? (E w.heap.size 1)=some (.slice a1 x.berths.length c1):=HK0.out.cell rfl;by_cases hlt:k<x.berths.length
 case neg =>
  have hke:k=x.berths.length:=by omega
  subst hke
  cases hch:chT x ci y x.berths.length with
  |none =>
   have HCH:=iH hch;simp only[bsC];clear hch
   go_wp2
   go_ret;exact⟨by rw[HCH.out];rfl,hB⟩
  |some v =>
   have HCH:=iH hch;obtain⟨hz,hzl⟩:=Gg hch;obtain⟨bb,bo,rfl,_,hbb,hbc⟩:=N1.out.at hz;obtain⟨am,cm,t0,_⟩:=hbc;have g1:wr.cell? (E bb (bo+v.1*6))=some (Y v.2.name):=(hB.cell (p:=(E bb (bo+v.1*6))) hbb).trans t0;have hvn:¬((v.1:Nat):Int)<0:=by omega
   simp only[bsC];clear hch hz t0 hbb
   go_wp2
   go_ret;exact⟨by rw[HCH.out];rfl,hB⟩
 obtain⟨b,hb⟩:=gXe hlt;obtain⟨bb,bo,rfl,_,hbbl,hbc⟩:=N1.out.at hb;obtain⟨am,cm,t0,t1,t2,t3,t4,t5,_,_,nM⟩:=hbc;simp only[Nat.add_zero]at t0;have HRB:Hid (w.rangeAt bb (bo+k*6) (bbL b am cm)):=Aa t0 (Aa t1 (Aa t2 (Aa t3 (Aa t4 (Aa t5 (Am _ _ _))))));have NM:=iH nM;have HBI:=iH hb;have HBR:=iH ((Au HV).2.2.1 k b hb);clear t0 t1 t2 t3 t4 t5 nM hb;go_upto_region 5 with fail;clear f1;refine wp_region_held_drew (S:=λwy=>Blk w.heap.size (ffA x (O bb bo) c1 a2 c2 a3 c3) 32 wy/\Blk (w.heap.size+1) (ccA y a7 c7) 54 wy/\bW w wy) (by kernel_rfl) ⟨HK0.out.drew,HK1.out.drew,hB.drew⟩ (λhS=>?_);clear HK0 HK1 hB;generalize wr.drew=wa at *;refine tm 0 14 w.heap.size 0 (ffL x (O bb bo) c1 a2 c2 a3 c3) rfl (λ_ h=>h.1.rangeA) underlying32 Cf hS ?_;refine tk 1 ⟨some 15,_,_,_,_,none⟩ (.agg (ccA y a7 c7)) rfl (yieldsIf_load_mid (by rfl) _ _ rfl (w.heap.size+1) (0) rfl (ccL y a7 c7) _ (λ_ h=>h.2.1.rangeA) underlying54 rfl Bz) hS ?_;refine tz 2 16 (pP w.heap.size 1) ?_;refine tl 3 17 (sP bb bo x.berths.length c1) (E w.heap.size 1) rfl (λwy hy=>hy.1.cell rfl) hS ?_;refine tz 4 18 (X ((k:Nat):Int)) ?_;refine x3 5 19 (pP bb (bo+k*6)) ?_;refine tk 6 ⟨some 20,_,_,_,_,none⟩ (.agg (bbA b am cm)) rfl (yieldsIf_load_mid (by rfl) _ _ rfl bb (bo+k*6) rfl (bbL b am cm) _ (λ_ h=>(λj u hj=>(h.2.2.cell (p:=(E bb (bo+k*6+j))) hbbl).trans (HRB j u hj))) underlying92 rfl Cg) hS ?_;refine rd1 7 ⟨some 21,_,_,_,_,none⟩ rfl (λK hK=>?_);go_simp;refine(jO lo ci k x (O bb bo) c1 a2 c2 a3 c3 y a7 c7 b am cm false _ (N1.out.below BrtC.holds hS.2.2 nL) (N3.out.below CpyC.holds hS.2.2 nL) (NM.out.below StrC.holds hS.2.2 nL) HCI HBI HV HSEL rfl).mono ?_;rintro e w5⟨rfl,hb5⟩;refine hK.out _ _ ⟨hS.1.below hb5 hS.1.lt,hS.2.1.below hb5 hS.2.1.lt,hS.2.2.trans (hb5.mono hS.2.2.size)⟩ (λhS=>?_);clear hK K;clear hb5;by_cases hfit:Cs x ci y b false=0
 case neg =>
  have HNX:=iH (rR HBI hfit);generalize Cs x ci y b false=fv at *;have hd:decide (fv=0)=false:=decide_eq_false hfit;have hd2:(fv==0)=false:=by simpa using hfit
  refine tz 8 22 (.bool false) ?_;refine tz 9 23 (.bool false) ?_;refine ts 10 24 ?_;refine ts 11 25 ?_;refine ts 12 26 ?_;refine ts 13 27 ?_;refine ts 14 28 ?_;refine ts 15 29 ?_;refine ts 16 30 ?_;refine ts 17 31 ?_;refine ts 18 32 ?_;refine ts 19 33 ?_;refine ts 20 34 ?_;refine ts 21 35 ?_;refine ts 22 36 ?_;refine ts 23 37 ?_;refine ts 24 38 ?_;refine ts 25 39 ?_;refine ts 26 40 ?_;refine ts 27 41 ?_;refine ts 28 42 ?_;refine ts 29 43 ?_;refine ts 30 44 ?_;refine ts 31 45 ?_;refine ts 32 46 ?_;refine tz 33 47 (.bool false) ?_;have HK0:=iH hS.1;have HK1:=iH hS.2.1;have hB:=hS.2.2;refine td ?_;clear hS
  go_wp2
  go_roundw
  case rel=>exact⟨k+1,by omega,by first|rfl|go_num,by first|(rw[HNX.out];done)|(rw[HNX.out];rfl),HK0,HK1,hB⟩
  simp[intOf];omega
 have HNX:=iH (rL HBI hfit);rw[hfit];clear hfit
 cases hch:chT x ci y k with
 |none =>
  rw[hch]at HNX;simp only[bsC];clear hch;refine tz 8 22 (.bool true) ?_;refine tz 9 23 (.bool true) ?_;refine tz 10 24 (X (-1)) ?_;refine tz 11 25 (.bool true) ?_;refine tz 12 26 (.bool true) ?_;refine ts 13 27 ?_;refine ts 14 28 ?_;refine ts 15 29 ?_;refine ts 16 30 ?_;refine ts 17 31 ?_;refine ts 18 32 ?_;refine ts 19 33 ?_;refine ts 20 34 ?_;refine ts 21 35 ?_;refine ts 22 36 ?_;refine ts 23 37 ?_;refine ts 24 38 ?_;refine ts 25 39 ?_;refine ts 26 40 ?_;refine ts 27 41 ?_;refine ts 28 42 ?_;refine ts 29 43 ?_;refine ts 30 44 ?_;refine ts 31 45 ?_;refine tz 32 46 (.bool true) ?_;refine tz 33 47 (.bool true) ?_;have HK0:=iH hS.1;have HK1:=iH hS.2.1;have hB:=hS.2.2;refine td ?_;clear hS
  go_wp2
  go_roundw
  case rel=>exact⟨k+1,by omega,by first|rfl|go_num,by first|(rw[HNX.out];done)|(rw[HNX.out];rfl),HK0,HK1,hB⟩
  simp[intOf];omega
 | some v =>
  rw[hch]at HNX;obtain⟨hz,hzl⟩:=Gg hch;obtain⟨bb',bo',e',_,_,hbc⟩:=N1.out.at hz;cases e'
  obtain⟨am2,cm2,t0,t1,t2,t3,t4,t5,_,_,nM⟩:=hbc;simp only[Nat.add_zero]at t0;have HRV:Hid (w.rangeAt bb (bo+v.1*6) [Y v.2.name,Y v.2.zone,.slice am2 v.2.marks.length cm2,X v.2.room,X v.2.hold,.bool v.2.closed]):=Aa t0 (Aa t1 (Aa t2 (Aa t3 (Aa t4 (Aa t5 (Am _ _ _))))));have NV:=iH nM;have HVR:=iH ((Au HV).2.2.1 v.1 v.2 hz);have hvl:v.1<x.berths.length:=Af hz;have hvn:¬((v.1:Nat):Int)<0:=by omega
  have HLB:Hid (Ct (λt=>Il t b.marks b.zone) y.likes y.likes.length=n1C y b):=by
   show _=_
   rw[show(λt=>Il t b.marks b.zone)=(λt=>Ch t b.marks b.zone)from funext λt=>(bJ t _ _).symm];rfl
  have HLV:Hid (Ct (λt=>Il t v.2.marks v.2.zone) y.likes y.likes.length=n1C y v.2):=by
   show _=_
   rw[show(λt=>Il t v.2.marks v.2.zone)=(λt=>Ch t v.2.marks v.2.zone)from funext λt=>(bJ t _ _).symm];rfl
  obtain⟨T,hT⟩:∃T,btr x ci y b v.2=T:=⟨_,rfl⟩;have HBT:=iH hT;have HTT:=iH hT;simp only[bsC];clear hch hz t0 t1 t2 t3 t4 t5 nM hT;refine tz 8 22 (.bool true) ?_;refine tz 9 23 (.bool true) ?_;refine tz 10 24 (X ((v.1:Nat):Int)) ?_;refine x3 11 25 (.bool false) ?_;refine tz 12 26 (.bool false) ?_;refine tm 13 27 w.heap.size 0 (ffL x (O bb bo) c1 a2 c2 a3 c3) rfl (λ_ h=>h.1.rangeA) underlying32 Cf hS ?_;refine tk 14 ⟨some 28,_,_,_,_,some (12,false)⟩ (.agg (ccA y a7 c7)) rfl (yieldsIf_load_mid (by rfl) _ _ rfl (w.heap.size+1) (0) rfl (ccL y a7 c7) _ (λ_ h=>h.2.1.rangeA) underlying54 rfl Bz) hS ?_;refine tz 15 29 (pP w.heap.size 1) ?_;refine tl 16 30 (sP bb bo x.berths.length c1) (E w.heap.size 1) rfl (λwy hy=>hy.1.cell rfl) hS ?_;refine tz 17 31 (X ((k:Nat):Int)) ?_;refine x3 18 32 (pP bb (bo+k*6)) ?_;refine tk 19 ⟨some 33,_,_,_,_,some (12,false)⟩ (.agg (bbA b am cm)) rfl (yieldsIf_load_mid (by rfl) _ _ rfl bb (bo+k*6) rfl (bbL b am cm) _ (λ_ h=>(λj u hj=>(h.2.2.cell (p:=(E bb (bo+k*6+j))) hbbl).trans (HRB j u hj))) underlying92 rfl Cg) hS ?_;refine tm 21 35 w.heap.size 0 (ffL x (O bb bo) c1 a2 c2 a3 c3) rfl (λ_ h=>h.1.rangeA) underlying32 Cf hS ?_;refine tk 22 ⟨some 36,_,_,_,_,some (12,false)⟩ (.agg (ccA y a7 c7)) rfl (yieldsIf_load_mid (by rfl) _ _ rfl (w.heap.size+1) (0) rfl (ccL y a7 c7) _ (λ_ h=>h.2.1.rangeA) underlying54 rfl Bz) hS ?_;refine tz 23 37 (pP w.heap.size 1) ?_;refine tl 24 38 (sP bb bo x.berths.length c1) (E w.heap.size 1) rfl (λwy hy=>hy.1.cell rfl) hS ?_;refine tz 25 39 (X ((v.1:Nat):Int)) ?_;refine x3 26 40 (pP bb (bo+v.1*6)) ?_;refine tk 27 ⟨some 41,_,_,_,_,some (12,false)⟩ (.agg #[Y v.2.name,Y v.2.zone,.slice am2 v.2.marks.length cm2,X v.2.room,X v.2.hold,.bool v.2.closed]) rfl (yieldsIf_load_mid (by rfl) _ _ rfl bb (bo+v.1*6) rfl [Y v.2.name,Y v.2.zone,.slice am2 v.2.marks.length cm2,X v.2.room,X v.2.hold,.bool v.2.closed] _ (λ_ h=>(λj u hj=>(h.2.2.cell (p:=(E bb (bo+v.1*6+j))) hbbl).trans (HRV j u hj))) underlying92 rfl Cg) hS ?_;refine tz 29 43 (pP w.heap.size 0) ?_;refine tl 30 44 (.bool x.pack) (E w.heap.size 0) rfl (λwy hy=>hy.1.cell rfl) hS ?_;refine rd1 20 ⟨some 34,_,_,_,_,some (12,false)⟩ rfl (λK hK=>?_);go_simp;refine(Sz x (O bb bo) c1 a2 c2 a3 c3 lo ci y a7 c7 b am cm _ (N1.out.below BrtC.holds hS.2.2 nL) (N3.out.below CpyC.holds hS.2.2 nL) (N7.out.below LikC.holds hS.2.2 nL) (NM.out.below StrC.holds hS.2.2 nL) HCI (Gx HBR.out.1) (Kq HBR.out.2.2.2) (Co HBR.out.2.1) HV HBR.out.2.2.1).mono ?_;rintro e w6⟨rfl,hb6⟩;refine hK.out _ _ ⟨hS.1.below hb6 hS.1.lt,hS.2.1.below hb6 hS.2.1.lt,hS.2.2.trans (hb6.mono hS.2.2.size)⟩ (λhS=>?_);clear hK K;clear hb6;refine rd1 28 ⟨some 42,_,_,_,_,some (12,false)⟩ rfl (λK hK=>?_);go_simp;refine(Sz x (O bb bo) c1 a2 c2 a3 c3 lo ci y a7 c7 v.2 am2 cm2 _ (N1.out.below BrtC.holds hS.2.2 nL) (N3.out.below CpyC.holds hS.2.2 nL) (N7.out.below LikC.holds hS.2.2 nL) (NV.out.below StrC.holds hS.2.2 nL) HCI (Gx HVR.out.1) (Kq HVR.out.2.2.2) (Co HVR.out.2.1) HV HVR.out.2.2.1).mono ?_
  rintro e w7⟨rfl,hb7⟩;refine hK.out _ _ ⟨hS.1.below hb7 hS.1.lt,hS.2.1.below hb7 hS.2.1.lt,hS.2.2.trans (hb7.mono hS.2.2.size)⟩ (λhS=>?_);clear hK K;clear hb7;rw[HLB.out,HLV.out];refine rd1 31 ⟨some 45,_,_,_,_,some (12,false)⟩ rfl (λK hK=>?_);go_simp;refine(Ul _ _ _ _ _ _ _ _ x.pack _).mono ?_;rintro e w8⟨rfl,hb8⟩;refine hK.out _ _ ⟨hS.1.below hb8 hS.1.lt,hS.2.1.below hb8 hS.2.1.lt,hS.2.2.trans (hb8.mono hS.2.2.size)⟩ (λhS=>?_);clear hK K;clear hb8;have e9:=HBT.out;unfold btr n2C n3C n4C at e9;rw[e9];clear e9;refine tz 32 46 (.bool T) ?_;refine tz 33 47 (.bool T) ?_;have HK0:=iH hS.1;have HK1:=iH hS.2.1;have hB:=hS.2.2;refine td ?_;clear hS
  cases T with
  |false =>
   have HNY:Hid (chT x ci y (k+1)=some v):=by show _=_;rw[HNX.out];simp[Qc,HTT.out]
   go_wp2
   go_roundw
   case rel=>exact⟨k+1,by omega,by first|rfl|go_num,by first|(rw[HNY.out];done)|(rw[HNY.out];rfl),HK0,HK1,hB⟩
   simp[intOf];omega
  |true =>
   have HNY:Hid (chT x ci y (k+1)=some (k,b)):=by show _=_;rw[HNX.out];simp[Qc,HTT.out]
   go_wp2
   go_roundw
   case rel=>exact⟨k+1,by omega,by first|rfl|go_num,by first|(rw[HNY.out];done)|(rw[HNY.out];rfl),HK0,HK1,hB⟩
   simp[intOf];omega
structure KpS (G:Nat->Prop) (w w':World):Prop where
 os:w'.os=w.os
 tape:w'.tape=w.tape
 output:w'.output=w.output
 size:w.heap.size<=w'.heap.size
 block:∀k,k<w.heap.size->¬G k->w'.heap[k]?=w.heap[k]?
theorem KpS.refl(G:Nat->Prop)(w:World):KpS G w w:=⟨rfl,rfl,rfl,Nat.le_refl _,λ_ _ _=>rfl⟩
theorem KpS.trans{G:Nat->Prop}{a b c:World}(h:KpS G a b)(k:KpS G b c):KpS G a c :=
 ⟨k.os.trans h.os,k.tape.trans h.tape,k.output.trans h.output,lT h.size k.size,λi hi hp=>(k.block i (lL hi h.size) hp).trans (h.block i hi hp)⟩
theorem KpS.of_below{G:Nat->Prop}{w w':World}(h:bW w w'):KpS G w w':=⟨h.os,h.tape,h.output,h.size,λk hk _=>h.block k hk⟩
theorem KpS.grown{G:Nat->Prop}{a w w':World}{row:Option Nat}(h:KpS G a w)(hg:w.grownBy w' row)(hr:∀r,row=some r->G r):KpS G a w' :=
 h.trans ⟨hg.os,hg.tape,hg.output,hg.size,λk hk hG=>hg.block k hk (λe=>hG (hr k e.symm))⟩
theorem KpS.blk{G:Nat->Prop}{w w':World}(h:KpS G w w'){g:Nat}{cs:Array Value}{t:TypeId}(hb:Blk g cs t w)(hG:¬G g):Blk g cs t w':=(h.block g hb.lt hG).trans hb
theorem KpS.cell{G:Nat->Prop}{w w':World}(h:KpS G w w'){a:Addr}(ha:a.block<w.heap.size)(hG:¬G a.block):w'.cell? a=w.cell? a:=World.cell?_of_block (w:=w) (h.block a.block ha hG)
def BU{α:Type}(P:Program)(gf:Nat)(lb:Array Value)(encs:α->Array Value)(G:Nat->Prop)(g hb:Nat)(N:Nat)(S:List α->Prop)(Fin:World->Prop)(w:World):Prop :=
 ∀(l:Nat)(J:List α->World->Prop)(W:World),bW w W->(∀pre W1 W2,J pre W1->B2 g hb W1 W2->J pre W2) ->
  (∀pre x W1,J pre W1->pre.length<N->YieldAt Fence.wide 0 P l (encs x) W1 λe W'=>e=.returned (.bool true)/\J (pre++[x]) W'/\KpS G W1 W') ->
  J [] W ->
  Calls P gf (#[.func (.yield l) #[] #[]]++lb) W λe W'=>(∃v,e=.returned v)/\∃xs,S xs/\J xs W'/\Fin W'
def CG{α:Type}(B:Nat)(G:Nat->Prop)(I:List α->World->Prop)(xs:List α)(W:World):Exit->Act->World->Prop
 |.normal,_,W'=>KeepsFrom B W W'/\KpS G W W'/\I xs W'
 |_,_,_=>False
theorem jK{α:Type}{P:Program}{n:Nat}{g:Operand}{ps:Array Tmp}{assign body:Code}{Q:Exit->Act->World->Prop}{a:Act}{w:World}(G:Nat->Prop)(gw hw:Nat){gf:Nat}{lb:Array Value}(hg:a.eval g=.func (.func gf) #[] lb)(eg:∀args w,(callFunc gf args).run P w=.ok (.enter gf args) w){encs:α->Array Value}{S:List α->Prop}{Fin:World->Prop}{N:Nat}(hseq:BU P gf lb encs G gw hw N S Fin w)(hFin:∀W k o,w.heap.size<=k->Fin W->Fin (W.putObj k o))(hgw:gw<w.heap.size)(hhw:hw<w.heap.size)(hps:∀x,(encs x).size=ps.size)(I:List α->World->Prop)(hI:OwnFrom w.heap.size I)(hIB:∀s A B,I s A->B2 gw hw A B->I s B)(h0:I [] w)(Ax:α->Act->World->Prop)(hAx:∀x a',OwnFrom w.heap.size (λ(_:Unit) W=>Ax x a' W))(hassign:∀(l:Nat) (pre:List α) (x:α) (W:World) (K':Act->World->Prop),I pre W->(∀a' W',KeepsFrom w.heap.size W W'->KpS G W W'->I pre W'->Ax x a' W'->K' a' W') ->
   assign.wpIn (Fence.wide.inRound l) 5 P (Exit.then K' (λ_ _ _=>False)) {tmps:=(ps.zip (encs x)).foldl (λt (p,v)=>t.setIfInBounds p v) a.tmps,defers:=[]} W)(hbody:∀(l:Nat) (pre:List α) (x:α) (a':Act) (W:World),I pre W->Ax x a' W->pre.length<N->body.wpIn (Fence.wide.inRound l) 5 P (CG w.heap.size G I (pre++[x]) W) a' W)(hdone:∀(D:Nat) (xs:List α) (W:World),w.heap.size<=D->S xs->I xs W->Fin W->W.heap[D]?=some (.deferred (some []))->Q .normal {a with defers:={target:=.collected D,args:=#[]}::a.defers} W) :
  (Code.rangeFunc g ps assign body).wpIn Fence.wide n P Q a w:=by
 refine wpIn_rangeFunc λfn hfn=>?_
 rw[show Fence.wide.round=none from rfl];obtain⟨rec,hrec⟩:∃rec:LoopState->Option Code->Loop,rec=λst pe=>{state:=st,pending:=pe,fn,tmps:=a.tmps,params:=ps,assign,body,defers:=w.heap.size}:=⟨_,rfl⟩
 obtain⟨L,hL⟩:∃L,L=w.heap.size+1:=⟨_,rfl⟩;obtain⟨W1,hW1⟩:∃W1,W1=(w.alloc (.deferred (some []))).alloc (.loop (rec .ready none)):=⟨_,rfl⟩;have e1:W1.heap[L]?=some (.loop (rec .ready none)):=by
  have:=World.alloc_heap_new (w.alloc (.deferred (some []))) (.loop (rec .ready none));rw[hW1,hL]
  rwa [World.size_alloc]at this
 have e2:W1.heap[w.heap.size]?=some (.deferred (some [])):=by
  rw[hW1];exact(Below.heap_alloc _ _ _ (by simp)).trans (World.alloc_heap_new w _)
 have e3:W1.heap.size=w.heap.size+2:=by rw[hW1];simp
 have hb:bW w W1:=by rw[hW1];exact((Below.refl _ w).alloc nL _).alloc (by simp) _
 have hI1:I [] W1:=by rw[hW1];exact hI.alloc _ (hI.alloc _ h0)
 have put:∀{s:List α} {W:World} {r:Loop} (o':Obj),I s W->W.heap[L]?=some (.loop r)->I s (W.putObj L o'):=λo' hi hl=>hI.putObj o' hi (by omega) hl rfl
 refine⟨L,[{target:=.collected w.heap.size,args:=#[]}],W1,{target:=.fn (.func gf) lb,args:=#[.func (.yield L) #[] #[]]},W1,gf,#[.func (.yield L) #[] #[]]++lb,W1,?_,?_,λ_ _=>trivial,?_,(λh=>by cases h),?_⟩
 .rw[hW1,hL,hrec];exact run_enterLoop_outer _ _ _ _ _
 .simp only[resolve,hg]
  simp[go_sem]
 .simp[invoke,go_sem,eg]
 refine callsIn_wide.2 ((hseq L (λpre W=>I pre W/\W.heap[L]?=some (.loop (rec .ready none))/\W.heap[w.heap.size]?=some (.deferred (some []))) W1 hb ?_ ?_ ⟨hI1,e1,e2⟩).mono ?_)
 .rintro pre A B⟨h1,h2,h3⟩h4
  exact⟨hIB _ _ _ h1 h4,(h4.block L (Array.getElem?_eq_some_iff.1 h2).1 (by omega) (by omega)).trans h2,(h4.block _ (Array.getElem?_eq_some_iff.1 h3).1 (by omega) (by omega)).trans h3⟩
 .rintro pre x W⟨hi,hl,hk⟩hlen
  have hy:=run_yield (P:=P) (args:=encs x) hl (by rw[hrec];exact hps x);rw[hrec]at hy;refine⟨fn,_,assign,body,hy,roundIn_of_wpIn hfn (Gl (m:=5) (hassign L pre x W _ hi ?_))⟩;clear hy;intro a' Wa ka kpa hia hax;have hla:=ka.same _ _ (by omega) hl rfl;have hka:=ka.same _ _ nL hk rfl;have hlt:L<Wa.heap.size:=(Array.getElem?_eq_some_iff.1 hla).1;refine⟨_,run_beginRound hla (by rw[hrec]),?_⟩;obtain⟨Wb,hWb⟩:∃Wb,Wb=Wa.putObj L (.loop {rec .ready none with state:=.busy}):=⟨_,rfl⟩;have hlb:Wb.heap[L]?=some (.loop {rec .ready none with state:=.busy}):=by rw[hWb];exact World.putObj_heap_same hlt
  have hkb:Wb.heap[w.heap.size]?=some (.deferred (some [])):=by rw[hWb];exact(World.putObj_heap_other (by omega)).trans hka
  have hlW:=iH hl;have hWbo:Wb.os=Wa.os/\Wb.tape=Wa.tape/\Wb.output=Wa.output/\Wa.heap.size<=Wb.heap.size/\∀k,k≠L->Wb.heap[k]?=Wa.heap[k]?:=by rw[hWb];exact⟨rfl,rfl,rfl,(grownBy_putObj' _ _ _).size,λk e=>World.putObj_heap_other e⟩
  have hib:I pre Wb:=by rw[hWb];exact put _ hia hla
  have haxb:Ax x a' Wb:=by rw[hWb];exact(hAx x a').putObj (s:=()) _ hax (by omega) hla rfl
  rw[<-hWb];clear hWb;refine wpIn_mono (Gl (m:=5) (hbody L pre x a' Wb hib haxb hlen)) ?_;rintro e a3 W3 hp
  cases e with
  | normal =>
   obtain⟨k3,kp3,hi3⟩:=hp;have hl3:=k3.same _ _ (by omega) hlb rfl;have hk3:=k3.same _ _ nL hkb rfl;have hr:=run_endRound (P:=P) none hl3;refine⟨_,_,hr,rfl,⟨put _ hi3 hl3,?_,(World.putObj_heap_other (by omega)).trans hk3⟩,?_⟩
   .rw[World.putObj_heap_same (Array.getElem?_eq_some_iff.1 hl3).1,hrec]
    rfl
   refine⟨kp3.os.trans (hWbo.1.trans kpa.os),kp3.tape.trans (hWbo.2.1.trans kpa.tape),kp3.output.trans (hWbo.2.2.1.trans kpa.output),lT kpa.size (lT hWbo.2.2.2.1 (lT kp3.size (grownBy_putObj' _ _ _).size)),λk hk hG=>?_⟩;by_cases e:k=L
   .subst e
    rw[World.putObj_heap_same (Array.getElem?_eq_some_iff.1 hl3).1,hlW.out,hrec];rfl
   refine(World.putObj_heap_other e).trans ((kp3.block k ?_ hG).trans ((hWbo.2.2.2.2 k e).trans (kpa.block k hk hG)));exact lL hk (lT kpa.size hWbo.2.2.2.1)
  |ret=>exact hp.elim
  |exit id=>exact hp.elim
  |goto t=>exact hp.elim
  |panic ch=>exact hp.elim
  |outgrown=>exact hp.elim
 rintro e W2⟨⟨v,rfl⟩,xs,hS,⟨hi,hl,hk⟩,hfn2⟩;have hr:=run_endLoop (P:=P) hl (by rw[hrec];simp);exact⟨none,_,by rw[hrec]at hr;exact hr,hdone _ xs _ nL hS (put _ hi hl) (hFin _ _ _ (by omega) hfn2) ((World.putObj_heap_other (by omega)).trans hk)⟩
theorem Jl{F:Fence}{nF:Nat}{P:Program}{ops:Array Oper}{rest:List Oper}{op:Oper}{a:Act}{w:World}{Q:Exit->Act->World->Prop}(hw:Region.wanted op (yielded ops a.tmps)=true)(ty:TypeId)(x:Operand)(ho:op.op=.load ty x)(b o:Nat)(hx:a.eval x=pP b o)(cs:List Value)(d:TypeDesc)(hc:w.rangeAt b o cs)(hu:P.underlying ty=some d)(hd:d.isRow=true)(hi:(P.info? ty).map (·.size)=some cs.length)(h:wpListIn F nF P ops Q rest (a.put op.dst (.agg cs.toArray)) w):wpListIn F nF P ops Q (op::rest) a w:=by
 refine wpListIn_step λK' hK'=>?_
 rw[if_pos hw];unfold Oper.wpIn;refine⟨by simp[Oper.about,ho],?_⟩;rw[Oper.semAt_plain F _ _ (by rw[ho];intro c hc';cases hc')];simp only[execOp,ho,hx,Instr.loadAt,Instr.sureAddr,Sem.run_bind,Sem.run_pure,Result.andThen_ok,run_loadVar_mid w b o ty cs d hc hu hd hi];exact hK' _ _ h
theorem Fm{F:Fence}{nF:Nat}{P:Program}{ops:Array Oper}{rest:List Oper}{op:Oper}{a:Act}{w:World}{Q:Exit->Act->World->Prop}(hgd:op.guard=none)(ty:TypeId)(x y:Operand)(ho:op.op=.store ty x y)(b o:Nat)(cells:Array Value)(hx:a.eval x=pP b o)(hy:a.eval y=.agg cells)(ht:w.there b o cells.size)(hi:(P.info? ty).map (·.size)=some cells.size)(h1:cells.all (·.oneCell')=true)(w':World)(hw:w'=w.setCells b o cells.toList)(h:wpListIn F nF P ops Q rest (a.put op.dst undef) w'):wpListIn F nF P ops Q (op::rest) a w:=by
 subst hw;refine wpListIn_plain hgd λK' hK'=>?_
 unfold Oper.wpIn;refine⟨by simp[Oper.about,ho],?_⟩;rw[Oper.semAt_plain F _ _ (by rw[ho];intro c hc';cases hc')];simp only[execOp,ho,hx,hy,Instr.storeAt,Instr.sureAddr,Sem.run_bind,Sem.run_pure,Result.andThen_ok,run_storeVar_mid w b o ty cells ht hi h1];exact hK' _ _ h
theorem Hv:(prog.info? 162).map (·.size)=some 5:=by kernel_rfl
theorem CH:Po 162 5:=⟨_,underlying162,rfl,Hv⟩
theorem dP(k m a0 a1 a2 a3 b0 b1 b2 b3:Int)(pk:Bool)(p Bf:Nat)(w:World)(hbf:w.cell? (E Bf 0)=some (pP p 0))(hpk:w.cell? (E p 0)=some (.bool pk)) :
  Calls prog 111 #[.agg #[X k,X a0,X a1,X a2,X a3],.agg #[X m,X b0,X b1,X b2,X b3],pP Bf 0] w (Rt (.bool (Cl a0 a1 a2 a3 b0 b1 b2 b3 pk)) w):=by
 have hfl:=block_lt_of_cell hbf;have hpl:=block_lt_of_cell hpk;have HBF:=iH hbf;have HPK:=iH hpk;clear hbf hpk;have HA:Hid (Blk w.heap.size #[X k,X a0,X a1,X a2,X a3] 162 ((w.alloc (Obj.cells #[X k,X a0,X a1,X a2,X a3] 162)).alloc (Obj.cells #[X m,X b0,X b1,X b2,X b3] 162))):=(Blk.alloc w _ _).below ((Below.refl _ _).alloc nL _) (Blk.alloc w _ _).lt;have HC:Hid (Blk (w.heap.size+1) #[X m,X b0,X b1,X b2,X b3] 162 ((w.alloc (Obj.cells #[X k,X a0,X a1,X a2,X a3] 162)).alloc (Obj.cells #[X m,X b0,X b1,X b2,X b3] 162))):=by
  have h:=Blk.alloc (w.alloc (Obj.cells #[X k,X a0,X a1,X a2,X a3] 162)) #[X m,X b0,X b1,X b2,X b3] 162;show Blk _ _ _ _
  simpa using h
 have hB1:=bl2 w #[X k,X a0,X a1,X a2,X a3] 162 #[X m,X b0,X b1,X b2,X b3] 162;go_enter func111,ntmps111;go_upto_region 1 with fail;generalize(w.alloc (Obj.cells #[X k,X a0,X a1,X a2,X a3] 162)).alloc (Obj.cells #[X m,X b0,X b1,X b2,X b3] 162)=w1 at *;refine wp_region_held_drew (S:=λwy=>Blk w.heap.size #[X k,X a0,X a1,X a2,X a3] 162 wy/\Blk (w.heap.size+1) #[X m,X b0,X b1,X b2,X b3] 162 wy/\bW w wy) (by kernel_rfl) ⟨HA.out.drew,HC.out.drew,hB1.drew⟩ (λhS=>?_);clear HA HC hB1;generalize w1.drew=wa at *;refine tz 0 6 (pP w.heap.size 1) ?_;refine tk 1 ⟨some 7,_,_,_,_,none⟩ (.agg #[X a0,X a1,X a2,X a3]) rfl (yieldsIf_load_mid (by rfl) _ _ rfl w.heap.size (1) rfl [X a0,X a1,X a2,X a3] _ (λ_ h=>(λj v hj=>h.1.cell (o:=1+j) (by have hj4:j<4:=Af hj;have hc:j=0\/j=1\/j=2\/j=3:=(by omega);rcases hc with rfl|rfl|rfl|rfl<;>(cases hj;rfl)))) underlying134 rfl Fr) hS ?_;refine tz 2 8 (pP (w.heap.size+1) 1) ?_;refine tk 3 ⟨some 9,_,_,_,_,none⟩ (.agg #[X b0,X b1,X b2,X b3]) rfl (yieldsIf_load_mid (by rfl) _ _ rfl (w.heap.size+1) (1) rfl [X b0,X b1,X b2,X b3] _ (λ_ h=>(λj v hj=>h.2.1.cell (o:=1+j) (by have hj4:j<4:=Af hj;have hc:j=0\/j=1\/j=2\/j=3:=(by omega);rcases hc with rfl|rfl|rfl|rfl<;>(cases hj;rfl)))) underlying134 rfl Fr) hS ?_;refine tl 4 10 (pP p 0) (E Bf 0) rfl (λwy hy=>(hy.2.2.cell (p:=(E Bf 0)) hfl).trans HBF) hS ?_;refine tz 5 11 (pP p 0) ?_;refine tz 6 12 (pP p 0) ?_;refine tz 7 13 (pP p 0) ?_;refine tl 8 14 (.bool pk) (E p 0) rfl (λwy hy=>(hy.2.2.cell (p:=(E p 0)) hpl).trans HPK) hS ?_;refine rd1 9 ⟨some 15,_,_,_,_,none⟩ rfl (λK hK=>?_);go_simp;refine(Vq a0 a1 a2 a3 b0 b1 b2 b3 pk _).mono ?_;rintro e w5⟨rfl,hb5⟩;refine hK.out _ _ ⟨hS.1.below hb5 hS.1.lt,hS.2.1.below hb5 hS.2.1.lt,hS.2.2.trans (hb5.mono hS.2.2.size)⟩ (λhS=>?_);clear hK K;clear hb5;refine tz 10 5 (.bool (Cl a0 a1 a2 a3 b0 b1 b2 b3 pk)) ?_;have hB:=hS.2.2;refine td ?_;clear hS
 go_wp2
 go_ret;exact⟨rfl,hB⟩
def SpotK(W:World)(lo ci bi:Nat)(x:Flt)(a1 a3:OA)(y:Cpy)(a7:OA)(b:Brt)(am:OA):Prop :=
 sB lo W a1 x.berths/\sC lo W a3 x.copies/\sK lo W a7 y.likes/\sX lo W am b.marks/\Bb x=true/\x.copies[ci]?=some y/\x.berths[bi]?=some b
theorem Gv{m4 n n' lo:Nat}{bs bs':List Brt}{w w':World}(hb:But m4 w.heap.size w w')(h:MemoAt m4 n bs w)(h':MemoAt m4 n' bs' w'):Keeps lo w w':=by
 obtain⟨_,_,_,⟨es,cl,g1,_⟩,_⟩:=h;obtain⟨_,_,_,⟨es',cl',g2,_⟩,_⟩:=h';refine⟨hb.size,λb o _ hl=>?_⟩;by_cases e:b=m4
 .subst e
  simp[World.cell?,World.frozen?,g1,g2]
 have h9:=hb.block b hl e;simp[World.cell?,World.frozen?,h9]
theorem SpotK.keep{lo ci bi:Nat}{x:Flt}{a1 a3:OA}{y:Cpy}{a7:OA}{b:Brt}{am:OA}{w w':World}(h:SpotK w lo ci bi x a1 a3 y a7 b am)(k:Keeps lo w w'):SpotK w' lo ci bi x a1 a3 y a7 b am :=
 ⟨h.1.keep BrtC.holds k nL,h.2.1.keep CpyC.holds k nL,h.2.2.1.keep LikC.holds k nL,h.2.2.2.1.keep StrC.holds k nL,h.2.2.2.2⟩
def nE(f:Nat)(t:Bool)(W:World)(p m1 m2 m3 m4 ci bi:Nat)(x:Flt)(a1:OA)(c1:Nat)(a2:OA)(c2:Nat)(a3:OA)(c3:Nat)(y:Cpy)(a7:OA)(c7:Nat)(b:Brt)(am:OA)(cm:Nat)(u1 u2 u3:Int):Prop :=
 ∀(n:Nat)(w:World),n<=8000000->bW W w->FoundM p m1 m2 m3 m4 n x a1 c1 a2 c2 a3 c3 w->Calls prog f #[.agg (An p ci bi y a7 c7 b am cm u1 u2 u3)] w λe w'=>e=.returned (.bool t)/\MemoAt m4 (n+1) x.berths w'/\But m4 w.heap.size w w'
theorem kB(p ci bi:Nat)(y:Cpy)(a7:OA)(c7:Nat)(b:Brt)(am:OA)(cm:Nat)(u1 u2 u3:Int)(w:World) :
  Calls prog 164 #[.agg (An p ci bi y a7 c7 b am cm u1 u2 u3)] w (Rt (.bool b.closed) w):=by
 go_enter func164,ntmps164
 go_wp2
 go_ret;exact⟨rfl,by go_grown⟩
theorem Vu{s:BA}(h:s=⟨#[]⟩):s.toList.isEmpty=true:=by rw[Cz h];rfl
theorem Mu{s:BA}(h:¬s=⟨#[]⟩):s.toList.isEmpty=false:=by
 cases e:s.toList with
 |nil=>exact absurd e (Bt h)
 |cons a l=>rfl
theorem Xx(p ci bi:Nat)(y:Cpy)(a7:OA)(c7:Nat)(b:Brt)(am:OA)(cm:Nat)(u1 u2 u3:Int)(w:World) :
  Calls prog 180 #[.agg (An p ci bi y a7 c7 b am cm u1 u2 u3)] w (Rt (.bool (Ir y b)) w):=by
 by_cases h1:y.fixed=⟨#[]⟩
 .have HE:Hid (Ir y b=false):=by show _=_;unfold Ir;rw[decide_eq_false (λh=>h h1)];rfl
  have t1:=Cz h1;have t2:=Vu h1;clear h1;go_enter func180,ntmps180
  go_wp2
  go_ret;exact⟨Ab HE.out.symm,by go_grown⟩
 have t1:=Bt h1;have t2:=Mu h1;by_cases h2:y.fixed=b.name
 .have HE:Hid (Ir y b=false):=by show _=_;unfold Ir;rw[decide_eq_false (p:=¬y.fixed=b.name) (λh=>h h2),Bool.and_false]
  have t3:=Bm h2;clear h1 h2;go_enter func180,ntmps180
  go_wp2
  go_ret;exact⟨Ab HE.out.symm,by go_grown⟩
 have HE:Hid (Ir y b=true):=by show _=_;unfold Ir;rw[decide_eq_true h1,decide_eq_true h2];rfl
 have t3:=Bn h2;clear h1 h2;go_enter func180,ntmps180
 go_wp2
 go_ret;exact⟨Ab HE.out.symm,by go_grown⟩
theorem sQ(p ci bi:Nat)(y:Cpy)(a7:OA)(c7:Nat)(b:Brt)(am:OA)(cm:Nat)(u1 u2 u3:Int)(w:World) :
  Calls prog 184 #[.agg (An p ci bi y a7 c7 b am cm u1 u2 u3)] w (Rt (.bool (decide (10<=u1))) w):=by
 by_cases h:10<=u1
 .rw[decide_eq_true h]
  go_enter func184,ntmps184
  go_wp2
  go_ret;exact⟨rfl,by go_grown⟩
 rw[decide_eq_false h];go_enter func184,ntmps184
 go_wp2
 go_ret;exact⟨rfl,by go_grown⟩
theorem aX(p ci bi:Nat)(y:Cpy)(a7:OA)(c7:Nat)(b:Brt)(am:OA)(cm:Nat)(u1 u2 u3:Int)(w:World)(h0:0<=u2)(h1:u2<=60000)(h2:0<=y.room)(h3:y.room<=1000) :
  Calls prog 185 #[.agg (An p ci bi y a7 c7 b am cm u1 u2 u3)] w (Rt (.bool (decide (b.room<u2+y.room))) w):=by
 by_cases h:b.room<u2+y.room
 .rw[decide_eq_true h]
  go_enter func185,ntmps185
  go_wp2
  go_ret;exact⟨rfl,by go_grown⟩
 rw[decide_eq_false h];go_enter func185,ntmps185
 go_wp2
 go_ret;exact⟨rfl,by go_grown⟩
theorem cL(p ci bi:Nat)(y:Cpy)(a7:OA)(c7:Nat)(b:Brt)(am:OA)(cm:Nat)(u1 u2 u3:Int)(w:World)(h0:0<=u3)(h1:u3<=60000)(h2:0<=y.hold)(h3:y.hold<=1000) :
  Calls prog 186 #[.agg (An p ci bi y a7 c7 b am cm u1 u2 u3)] w (Rt (.bool (decide (b.hold<u3+y.hold))) w):=by
 by_cases h:b.hold<u3+y.hold
 .rw[decide_eq_true h]
  go_enter func186,ntmps186
  go_wp2
  go_ret;exact⟨rfl,by go_grown⟩
 rw[decide_eq_false h];go_enter func186,ntmps186
 go_wp2
 go_ret;exact⟨rfl,by go_grown⟩
theorem jZ(W:World)(lo p m1 m2 m3 m4 ci bi:Nat)(x:Flt)(a1:OA)(c1:Nat)(a2:OA)(c2:Nat)(a3:OA)(c3:Nat)(y:Cpy)(a7:OA)(c7:Nat)(b:Brt)(am:OA)(cm:Nat)(u1 u2 u3:Int)(hK:SpotK W lo ci bi x a1 a3 y a7 b am)(hsel:y.select.size<=maxLen) :
  nE 181 (!Ch y.select b.marks b.zone) W p m1 m2 m3 m4 ci bi x a1 c1 a2 c2 a3 c3 y a7 c7 b am cm u1 u2 u3:=by
 intro n w hn hW hF;obtain⟨_,_,_,nm,hv,_,hb⟩:=hK;obtain⟨l1,_,hbr,_⟩:=Au hv;obtain⟨_,hbz,_,hmk⟩:=hbr bi b hb;have hbi:bi<=1048576:=by have:=Af hb;omega
 have hml:=Kq hmk;have hz:=Co hbz;have NM:=iH nm;have HB:=iH hb;have HW:=iH hW;have HF:=iH hF;have HS:=iH hsel;clear hv hbr hbz hmk nm hb hW hF hsel;go_enter func181,ntmps181;go_upto_region 1 with fail;have hb0:=(Below.refl _ w).alloc nL (Obj.cells (An p ci bi y a7 c7 b am cm u1 u2 u3) 201);have HX:=iH (Blk.alloc w (An p ci bi y a7 c7 b am cm u1 u2 u3) 201);have HF0:=iH (HF.out.below hb0);have HW0:=qTH HW hb0;have HB0:=iH hb0;have s8:(w.alloc (Obj.cells (An p ci bi y a7 c7 b am cm u1 u2 u3) 201)).cell? (E w.heap.size 8)=some (Y y.select):=HX.out.cell rfl;generalize w.alloc (Obj.cells (An p ci bi y a7 c7 b am cm u1 u2 u3) 201)=w0 at *;clear hb0;go_wp2_with(first|(refine wpList_load_mid rfl 201 _ rfl w.heap.size 0 (by first|rfl|(simp[go_sem];done)) (An p ci bi y a7 c7 b am cm u1 u2 u3).toList _ HX.out.rangeA underlying201 rfl Es ?_));obtain⟨n',D,hn',o4,hm⟩:=HF0.out.memo;refine(mV p m4 ci bi n' y a7 c7 b am cm u1 u2 u3 x.berths D y.select lo _ (HF0.out.1 7 _ rfl) o4 hm HB hbi (by omega) (NM.out.below StrC.holds HW0 nL) hml hz HS).mono ?_;rintro e w5⟨rfl,D5,ho5,hm5,hb5⟩;have HM5:Hid (MemoAt m4 (n+1) x.berths w5):=⟨n'+1,D5,by omega,ho5,hm5⟩;have HB5:Hid (But m4 w.heap.size w w5):=(But.of_below HB0).trans (hb5.mono HB0.out.size);clear o4 hm ho5 hm5 hb5;obtain⟨q,hq⟩:∃q,Ch y.select b.marks b.zone=q:=⟨_,rfl⟩;have HQ:=iH hq;rw[hq];clear hq;cases q
 all_goals
  go_wp2
  go_ret;exact⟨Ab (by rw[HQ.out];rfl),HM5,HB5⟩
structure StX where
 c:Cpy
 a8:OA
 c8:Nat
 b:Brt
 am:OA
 cm:Nat
abbrev Sl(s:StX):Array Value:=#[.agg #[Y s.c.name,Y s.c.service,X s.c.rank,X s.c.born,X s.c.room,X s.c.hold,Y s.c.select,.slice s.a8 s.c.likes.length s.c8,X s.c.apart,Y s.c.near,Y s.c.fixed,Y s.c.at_],.agg #[Y s.b.name,Y s.b.zone,.slice s.am s.b.marks.length s.cm,X s.b.room,X s.b.hold,.bool s.b.closed]]
def Hh(x:Flt)(ci:Nat)(sv:BA):Nat->List StX->Prop
 |0,xs=>xs=[]
 | k+1,xs=>match x.copies[k]? with
  |some c=>if k≠ci/\c.service=sv then(match Ar (brN x) c.at_ x.berths.length with
   |some j=>∃pre s,xs=pre++[s]/\s.c=c/\x.berths[j]?=some s.b/\Hh x ci sv k pre
   |none=>Hh x ci sv k xs)else Hh x ci sv k xs
  |none=>Hh x ci sv k xs
theorem Zk{x:Flt}{ci k:Nat}{sv:BA}{c:Cpy}{xs:List StX}(hk:x.copies[k]?=some c)(h:¬(k≠ci/\c.service=sv))(hc:Hh x ci sv k xs):Hh x ci sv (k+1) xs:=by
 simp only[Hh,hk];rw[if_neg h];exact hc
theorem oF{x:Flt}{ci k:Nat}{sv:BA}{c:Cpy}{xs:List StX}(hk:x.copies[k]?=some c)(hj:Ar (brN x) c.at_ x.berths.length=none)(hc:Hh x ci sv k xs):Hh x ci sv (k+1) xs:=by
 simp only[Hh,hk,hj]
 split<;>exact hc
theorem qS{x:Flt}{ci k j:Nat}{sv:BA}{s:StX}{xs:List StX}(hk:x.copies[k]?=some s.c)(h:k≠ci/\s.c.service=sv)(hj:Ar (brN x) s.c.at_ x.berths.length=some j)(hb:x.berths[j]?=some s.b)(hc:Hh x ci sv k xs):Hh x ci sv (k+1) (xs++[s]):=by
 simp only[Hh,hk,hj];rw[if_pos h];exact⟨xs,s,rfl,rfl,hb,hc⟩
def ItIn(p m1 Bs Bv ci:Nat)(x:Flt)(a1:OA)(c1:Nat)(a3:OA)(c3:Nat)(sv:BA)(w:World):Prop :=
 w.cell? (E Bs 0)=some (pP p 0)/\w.cell? (E Bs 1)=some (X ci)/\w.cell? (E Bv 0)=some (Y sv)/\w.cell? (E p 1)=some (.slice a1 x.berths.length c1)/\w.cell? (E p 3)=some (.slice a3 x.copies.length c3)/\w.cell? (E p 4)=some (.map (some m1))/\w.ownsMap prog 9 (plainElem prog 3) m1 x.berths.length (Aj (brN x) x.berths.length)
theorem ItIn.below{p m1 Bs Bv ci:Nat}{x:Flt}{a1:OA}{c1:Nat}{a3:OA}{c3:Nat}{sv:BA}{w w':World}(h:ItIn p m1 Bs Bv ci x a1 c1 a3 c3 sv w)(hb:bW w w'):ItIn p m1 Bs Bv ci x a1 c1 a3 c3 sv w':=by
 obtain⟨h0,h1,h2,h3,h4,h5,h6⟩:=h;exact⟨(hb.cell (p:=(E Bs 0)) (block_lt_of_cell h0)).trans h0,(hb.cell (p:=(E Bs 1)) (block_lt_of_cell h1)).trans h1,(hb.cell (p:=(E Bv 0)) (block_lt_of_cell h2)).trans h2,(hb.cell (p:=(E p 1)) (block_lt_of_cell h3)).trans h3,(hb.cell (p:=(E p 3)) (block_lt_of_cell h4)).trans h4,(hb.cell (p:=(E p 4)) (block_lt_of_cell h5)).trans h5,Ag h6 hb h6.lt⟩
theorem ItIn.but{p m1 Bs Bv ci:Nat}{x:Flt}{a1:OA}{c1:Nat}{a3:OA}{c3:Nat}{sv:BA}{w w':World}{g n₀:Nat}(h:ItIn p m1 Bs Bv ci x a1 c1 a3 c3 sv w)(hb:But g n₀ w w')(k1:Bs<n₀/\Bs≠g)(k2:Bv<n₀/\Bv≠g)(k3:p<n₀/\p≠g)(k4:m1<n₀/\m1≠g):ItIn p m1 Bs Bv ci x a1 c1 a3 c3 sv w':=by
 obtain⟨h0,h1,h2,h3,h4,h5,es,clock,e1,e2,e3,e4⟩:=h;exact⟨(hb.cell (a:=(E Bs 0)) k1.1 k1.2).trans h0,(hb.cell (a:=(E Bs 1)) k1.1 k1.2).trans h1,(hb.cell (a:=(E Bv 0)) k2.1 k2.2).trans h2,(hb.cell (a:=(E p 1)) k3.1 k3.2).trans h3,(hb.cell (a:=(E p 3)) k3.1 k3.2).trans h4,(hb.cell (a:=(E p 4)) k3.1 k3.2).trans h5,es,clock,(hb.block m1 k4.1 k4.2).trans e1,e2,e3,e4⟩
theorem Le(w:World):w.grownBy w.drew none:=⟨rfl,rfl,rfl,Nat.le_refl _,λ_ _ _=>rfl⟩
theorem Hz(p m1 Bs Bv ci g n₀:Nat)(x:Flt)(a1:OA)(c1:Nat)(a3:OA)(c3:Nat)(sv:BA)(lo:Nat)(W0 w:World)(hW:bW W0 w)(n1:sB lo W0 a1 x.berths)(n3:sC lo W0 a3 x.copies)(hI:ItIn p m1 Bs Bv ci x a1 c1 a3 c3 sv w)(l3:x.copies.length<=60)(hn0:W0.heap.size<=n₀)(hg:W0.heap.size<=g)(hn:n₀<=w.heap.size)(k1:Bs<n₀/\Bs≠g)(k2:Bv<n₀/\Bv≠g)(k3:p<n₀/\p≠g)(k4:m1<n₀/\m1≠g) :
  SeqStopsK Fence.wide 5 prog 188 #[pP Bs 0,pP Bv 0] Sl (But g n₀) (Hh x ci sv x.copies.length) (λpre=>∃k,k<=x.copies.length/\Hh x ci sv k pre) 60 w:=by
 intro l J Jx W hbW hJ _ hY h0;refine callsIn_wide.2 ?_;have N1:=iH n1;have N3:=iH n3;have HW:=iH (qTr hW hbW);have HI:=iH (hI.below hbW);have HY:=iH hY;have HJ:=iH hJ;have H0:=iH h0;have hWs:n₀<=W.heap.size:=lT hn hbW.size;obtain⟨i0,i1,i2,i3,i4,i5,i6⟩:=HI.out;clear n1 n3 hW i6 hI hbW hJ hY h0;show Calls prog 188 #[.func (.yield l) #[] #[],pP Bs 0,pP Bv 0] W _
 go_enter func188,ntmps188
 go_wp2
 go_loopw [15] (λi wr=>∃(k:Nat)(pre:List StX),k<=x.copies.length/\i=X k/\pre.length<=k/\Hid (Hh x ci sv k pre)/\Hid (J pre wr)/\Hid (ItIn p m1 Bs Bv ci x a1 c1 a3 c3 sv wr)/\Hid (bW W0 wr)/\W.heap.size<=wr.heap.size) (λi _=>x.copies.length-(intOf i).toNat)
 case atStart=>exact⟨0,[],zL,rfl,Nat.le_refl _,rfl,H0,HI,HW,Nat.le_refl _⟩
 clear HI HW i0 i1 i2 i3 i4 i5 H0;obtain⟨k,pre,hk,rfl,hpl,hC,hJ,hI,hB,hws⟩:=hrel;by_cases hlt:k<x.copies.length
 .obtain⟨c,hck⟩:=gXe hlt
  obtain⟨cb,co,rfl,_,_,hc⟩:=(N3.out.below CpyC.holds hB.out nL).at hck;obtain⟨a8,c8,q0,q1,q2,q3,q4,q5,q6,q7,q8,q9,q10,q11,z0,z1,z6,z9,z10,z11,z7⟩:=hc;simp only[Nat.add_zero]at q0 q1 q2 q3 q4 q5 q6 q7 q8 q9 q10 q11;have HRA:Hid (wr.rangeAt cb (co+k*12) (ccL c a8 c8)):=Aa q0 (Aa q1 (Aa q2 (Aa q3 (Aa q4 (Aa q5 (Aa q6 (Aa q7 (Aa q8 (Aa q9 (Aa q10 (Aa q11 (Am _ _ _))))))))))));have HX:=iH hck;have Z11:=iH z11;clear hck q0 q1 q2 q3 q4 q5 q6 q7 q8 q9 q10 q11 z0 z1 z6 z7 z9 z10 z11;go_upto_region 3 with(first|(refine qLr Hb HRA ?_));have hbx:=(Below.refl _ wr).alloc nL (Obj.cells (ccA c a8 c8) 54);have HX4:=iH (Blk.alloc wr (ccA c a8 c8) 54);have HI4:=iH (hI.out.below hbx);have HB4:=qTH hB hbx;have HJ4:Hid (J pre (wr.alloc (Obj.cells (ccA c a8 c8) 54))):=HJ.out pre wr _ none hJ.out (World.grownBy_alloc wr _ none) (λr e=>by cases e);have hws4:W.heap.size<=(wr.alloc (Obj.cells (ccA c a8 c8) 54)).heap.size:=lT hws hbx.size;clear HRA hbx hI hB hJ hws;generalize(wr.alloc (Obj.cells (ccA c a8 c8) 54))=w4 at *;obtain⟨i0,i1,i2,i3,i4,i5,i6⟩:=HI4.out;have g1:w4.cell? (E wr.heap.size 1)=some (Y c.service):=HX4.out.cell rfl;have g11:w4.cell? (E wr.heap.size 11)=some (Y c.at_):=HX4.out.cell rfl;by_cases hkc:k=ci
  .have hkc':((k:Nat):Int)=(ci:Int):=by omega
   have HCS:=iH (Zk (sv:=sv) HX (λh=>h.1 hkc) hC.out);clear hkc i6
   go_wp2
   go_roundw
   case rel=>exact⟨k+1,pre,by omega,by go_num,by omega,HCS,HJ4,HI4,HB4,hws4⟩
   simp[intOf];omega
  have hkc':¬((k:Nat):Int)=(ci:Int):=by omega
  by_cases hsv:c.service=sv
  .have hts:=Bm hsv
   have HSV:=iH hsv;clear hsv;have yl:=Az (s:=c.at_) i6.drew Z11;clear i6
   cases hj:Ar (brN x) c.at_ x.berths.length with
   |none =>
    rw[hj]at yl;simp only[Option.isSome_none,Option.getD_none]at yl;have HCS:=iH (oF (ci:=ci) (sv:=sv) HX hj hC.out);have HJ5:Hid (J pre w4.drew.drew):=HJ.out pre _ _ none (HJ pre _ _ none HJ4 (Le _) (λr e=>by cases e)) (Le _) (λr e=>by cases e);clear hj;go_wp2_with fail
    go_region
    go_wp2_with fail
    go_region
    go_wp2
    go_roundw
    case rel=>exact⟨k+1,pre,by omega,by go_num,by omega,HCS,HJ5,HI4.out.below ((Below.refl _ _).drew.drew),HB4.out.drew.drew,hws4⟩
    simp[intOf];omega
   | some j =>
    obtain⟨hjl,_⟩:=Gq hj;obtain⟨b,hb⟩:=gXe hjl;obtain⟨bb,bo,rfl,_,_,hbc⟩:=(N1.out.below BrtC.holds HB4 nL).at hb;obtain⟨am,cm,t0,t1,t2,t3,t4,t5,_,_,nM⟩:=hbc;simp only[Nat.add_zero]at t0;have HCS:=iH (qS (s:=⟨c,a8,c8,b,am,cm⟩) HX ⟨hkc,HSV⟩ hj hb hC.out);rw[hj]at yl;simp only[Option.isSome_some,Option.getD_some]at yl;clear hb hj nM;go_wp2_with fail
    go_region
    clear yl;go_upto_region 5 with fail;have h0:w4.cell? (E wr.heap.size 0)=some (Y c.name):=HX4.out.cell rfl;have h2:w4.cell? (E wr.heap.size 2)=some (X c.rank):=HX4.out.cell rfl;have h3:w4.cell? (E wr.heap.size 3)=some (X c.born):=HX4.out.cell rfl;have h4:w4.cell? (E wr.heap.size 4)=some (X c.room):=HX4.out.cell rfl;have h5:w4.cell? (E wr.heap.size 5)=some (X c.hold):=HX4.out.cell rfl;have h6:w4.cell? (E wr.heap.size 6)=some (Y c.select):=HX4.out.cell rfl;have h7:w4.cell? (E wr.heap.size 7)=some (.slice a8 c.likes.length c8):=HX4.out.cell rfl;have h8:w4.cell? (E wr.heap.size 8)=some (X c.apart):=HX4.out.cell rfl;have h9:w4.cell? (E wr.heap.size 9)=some (Y c.near):=HX4.out.cell rfl;have h10:w4.cell? (E wr.heap.size 10)=some (Y c.fixed):=HX4.out.cell rfl;obtain⟨fn,tmps,assign,body,hy,hR⟩:=HY.out pre ⟨c,a8,c8,b,am,cm⟩ w4.drew.drew (HJ pre _ _ none (HJ pre _ _ none HJ4 (Le _) (λr e=>by cases e)) (Le _) (λr e=>by cases e)) (by omega);dsimp only[Sl]at hy
    have hR':=hR.mono (R':=λe W'=>∃q,e=.returned (.bool q)/\Hid ((q=true/\J (pre++[⟨c,a8,c8,b,am,cm⟩]) W'/\But g n₀ w4.drew.drew W')\/(q=false/\Jx (pre++[⟨c,a8,c8,b,am,cm⟩]) W'))) (by
     rintro e W' (⟨h1,h2,h3⟩|⟨h1,h2⟩)
     .exact⟨true,h1,Or.inl ⟨rfl,h2,h3⟩⟩
     exact⟨false,h1,Or.inr ⟨rfl,h2⟩⟩)
    clear hR;refine(wpIn_wide (n:=5)).1 ?_
    gi_region_with (refine hR'.mono ?_;rintro e W' ⟨q,rfl,hq⟩)
    all_goals
     clear hR' hy
     cases q with
     | true =>
      have HQ:Hid (J (pre++[⟨c,a8,c8,b,am,cm⟩]) W'/\But g n₀ w4.drew.drew W'):=by
       rcases hq.out with h|h
       .exact h.2
       cases h.1
      clear hq
      go_wp2
      go_roundw
      case rel =>
       have hbt:=HQ.out.2;refine⟨k+1,_,by omega,by go_num,by simp;omega,HCS,HQ.out.1,((HI4.out.below ((Below.refl _ _).drew.drew)).but hbt k1 k2 k3 k4),HB4.out.drew.drew.trans (hbt.below hn0 hg),lT hws4 hbt.size⟩
      simp[intOf];omega
     | false =>
      have HQ:Hid (Jx (pre++[⟨c,a8,c8,b,am,cm⟩]) W'):=by
       rcases hq.out with h|h
       .cases h.1
       exact h.2
      clear hq;go_wp2_with fail;refine bodyPost_ret (results_none rfl _ _ _) rfl ?_;exact⟨⟨_,rfl⟩,Or.inr ⟨_,⟨k+1,by omega,HCS⟩,HQ⟩⟩
  have hts:=Bn hsv;have HCS:=iH (Zk (ci:=ci) HX (λh=>hsv h.2) hC.out);clear hsv i6
  go_wp2
  go_roundw
  case rel=>exact⟨k+1,pre,by omega,by go_num,by omega,HCS,HJ4,HI4,HB4,hws4⟩
  simp[intOf];omega
 have hke:k=x.copies.length:=by omega
 subst hke;go_wp2_with fail
 go_end0
 exact⟨⟨_,rfl⟩,Or.inl ⟨pre,hC.out,hJ.out⟩⟩
theorem Lc(sp:Array Value)(sv:BA)(w:World) :
  Calls prog 167 #[.agg sp,Y sv] w λe w'=>e=.returned (.func (.func 188) #[] #[pP w.heap.size 0,pP (w.heap.size+1) 0])/\w'=(w.alloc (Obj.cells sp 201)).alloc (Obj.cells #[Y sv] 9):=by
 go_enter func167,ntmps167
 go_wp2
 go_ret;exact⟨rfl,rfl⟩
def Nw(z:BA)(xs:List StX):Nat:=xs.countP λs=>decide (s.b.zone=z)
def Ny(nm:BA)(xs:List StX):Nat:=xs.countP λs=>decide (s.b.name=nm)
theorem Kk(z:BA)(xs:List StX)(s:StX):Nw z (xs++[s])=Nw z xs+(if s.b.zone=z then 1 else 0):=by
 unfold Nw;rw[List.countP_append];by_cases h:s.b.zone=z<;>simp[h]
theorem Kt(z:BA)(xs:List StX)(s:StX):Ny z (xs++[s])=Ny z xs+(if s.b.name=z then 1 else 0):=by
 unfold Ny;rw[List.countP_append];by_cases h:s.b.name=z<;>simp[h]
theorem Hf{x:Flt}(hv:Bb x=true)(ci:Nat)(sv z nm:BA)(hnm:¬nm=⟨#[]⟩):∀n xs,Hh x ci sv n xs->Nw z xs=Fc (znF x ci sv z) n/\Ny nm xs=Fc (Tc x ci sv nm) n
 |0,xs,h=>by
  have:xs=[]:=h;subst this;exact⟨rfl,rfl⟩
 | n+1,xs,h=>by
  obtain⟨_,hbN,hbr,hcp⟩:=Au hv
  cases hc:x.copies[n]? with
  |none =>
   simp only[Hh,hc]at h;have ih:=Hf hv ci sv z nm hnm n xs h;rw[Cw (f:=znF x ci sv z) (by unfold znF;rw[hc]),Cw (f:=Tc x ci sv nm) (by unfold Tc;rw[hc])];exact ih
  | some c =>
   simp only[Hh,hc]at h;by_cases hcd:n≠ci/\c.service=sv
   .rw[if_pos hcd]at h
    cases hj:Ar (brN x) c.at_ x.berths.length with
    | none =>
     rw[hj]at h;have ih:=Hf hv ci sv z nm hnm n xs h;have hat:c.at_=⟨#[]⟩:=by
      rcases(hcp n c hc).2.2 with e|⟨s,e⟩
      .exact e
      rw[hj]at e;cases e
     rw[Cw (Hm hc (λk=>k.2.2.1 hat)),Cw (Om hc (λk=>hnm (k.2.2.symm.trans hat)))];exact ih
    | some j =>
     rw[hj]at h;obtain⟨pre,s,rfl,hsc,hsb,hpre⟩:=h;have ih:=Hf hv ci sv z nm hnm n pre hpre;obtain⟨b,hb,hbn,hbz⟩:=bY hbN hj;rw[hsb]at hb;cases hb
     have hat:¬c.at_=⟨#[]⟩:=by
      intro e;rw[e,aP hbr]at hj;cases hj
     rw[Kk,Kt,ih.1,ih.2];constructor
     .by_cases hz:s.b.zone=z
      .rw[if_pos hz,Ks (Uf hc hcd.1 hcd.2 hat (hbz.trans hz))]
      rw[if_neg hz,Nat.add_zero,Cw (Hm hc (λk=>hz (hbz.symm.trans k.2.2.2)))]
     by_cases hz:s.b.name=nm
     .rw[if_pos hz,Ks (mL hc hcd.1 hcd.2 (hbn.symm.trans hz))]
     rw[if_neg hz,Nat.add_zero,Cw (Om hc (λk=>hz (hbn.trans k.2.2)))]
   rw[if_neg hcd]at h;have ih:=Hf hv ci sv z nm hnm n xs h;rw[Cw (Hm hc (λk=>hcd ⟨k.1,k.2.1⟩)),Cw (Om hc (λk=>hcd ⟨k.1,k.2.1⟩))];exact ih
end Go.Proofs.YthboopnmbglkjaaGreat
