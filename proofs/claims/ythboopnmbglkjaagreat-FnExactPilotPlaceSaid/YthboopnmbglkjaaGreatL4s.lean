import Derived.Test.YthboopnmbglkjaaGreatJ22
set_option maxHeartbeats 4000000
set_option maxRecDepth 100000
namespace Go.Proofs.YthboopnmbglkjaaGreat
open Go.RowKit Go.WideMaps Go.Maps Tryz
def L4In(B:Nat)(x:Flt)(a1:OA)(c1:Nat)(a2:OA)(c2:Nat)(a3:OA)(c3:Nat)(y:Cpy)(a7:OA)(c7:Nat)(b:Brt)(am:OA)(cm:Nat)(w:World):Prop :=
 Blk B (ffA x a1 c1 a2 c2 a3 c3) 32 w/\Blk (B+1) (ccA y a7 c7) 54 w/\Blk (B+1+1) (bbA b am cm) 92 w/\Blk (B+1+1+1) #[X (0),X (0),X (0),X (0)] 134 w
theorem L4In.below{B:Nat}{x:Flt}{a1:OA}{c1:Nat}{a2:OA}{c2:Nat}{a3:OA}{c3:Nat}{y:Cpy}{a7:OA}{c7:Nat}{b:Brt}{am:OA}{cm:Nat}{w w':World}(h:L4In B x a1 c1 a2 c2 a3 c3 y a7 c7 b am cm w)(hb:bW w w'):L4In B x a1 c1 a2 c2 a3 c3 y a7 c7 b am cm w' :=
 ⟨h.1.below hb h.1.lt,h.2.1.below hb h.2.1.lt,h.2.2.1.below hb h.2.2.1.lt,h.2.2.2.below hb h.2.2.2.lt⟩
theorem L4In.set{B:Nat}{x:Flt}{a1:OA}{c1:Nat}{a2:OA}{c2:Nat}{a3:OA}{c3:Nat}{y:Cpy}{a7:OA}{c7:Nat}{b:Brt}{am:OA}{cm:Nat}{w:World}(h:L4In B x a1 c1 a2 c2 a3 c3 y a7 c7 b am cm w)(o:Nat)(v:Value):L4In B x a1 c1 a2 c2 a3 c3 y a7 c7 b am cm (w.setCell (E (B+1+1+1+1) o) v) :=
 ⟨h.1.other (by show B≠B+1+1+1+1;omega) v,h.2.1.other (by show B+1≠B+1+1+1+1;omega) v,h.2.2.1.other (by show B+1+1≠B+1+1+1+1;omega) v,h.2.2.2.other (by show B+1+1+1≠B+1+1+1+1;omega) v⟩
theorem L4In.drew{B:Nat}{x:Flt}{a1:OA}{c1:Nat}{a2:OA}{c2:Nat}{a3:OA}{c3:Nat}{y:Cpy}{a7:OA}{c7:Nat}{b:Brt}{am:OA}{cm:Nat}{w:World}(h:L4In B x a1 c1 a2 c2 a3 c3 y a7 c7 b am cm w):L4In B x a1 c1 a2 c2 a3 c3 y a7 c7 b am cm w.drew:=h
theorem L4In.flt{B:Nat}{x:Flt}{a1:OA}{c1:Nat}{a2:OA}{c2:Nat}{a3:OA}{c3:Nat}{y:Cpy}{a7:OA}{c7:Nat}{b:Brt}{am:OA}{cm:Nat}{w:World}(h:L4In B x a1 c1 a2 c2 a3 c3 y a7 c7 b am cm w):FltIn B x a1 c1 a2 c2 a3 c3 w:=⟨h.1.cell rfl,h.1.cell rfl,h.1.cell rfl,h.1.cell rfl⟩
def L4R(B:Nat)(y:Cpy)(a7:OA)(c7:Nat)(b:Brt)(am:OA)(cm:Nat)(sb so:Nat)(s:BA)(w:World):Prop :=
 w.cell? (E (B+1) 7)=some (.slice a7 y.likes.length c7)/\w.cell? (E (B+1+1) 0)=some (Y b.name)/\w.cell? (E (B+1+1) 1)=some (Y b.zone)/\w.cell? (E (B+1+1) 2)=some (.slice am b.marks.length cm)/\w.cell? (E (B+1+1) 3)=some (X b.room)/\w.cell? (E (B+1+1) 4)=some (X b.hold)/\w.cell? (E (B+1+1) 5)=some (.bool b.closed)/\w.cell? (E sb so)=some (Y s)
theorem L4In.r{B:Nat}{x:Flt}{a1:OA}{c1:Nat}{a2:OA}{c2:Nat}{a3:OA}{c3:Nat}{y:Cpy}{a7:OA}{c7:Nat}{b:Brt}{am:OA}{cm:Nat}{w:World}(h:L4In B x a1 c1 a2 c2 a3 c3 y a7 c7 b am cm w){sb so:Nat}{s:BA}(hs:w.cell? (E sb so)=some (Y s)):L4R B y a7 c7 b am cm sb so s w :=
 ⟨h.2.1.cell rfl,h.2.2.1.cell rfl,h.2.2.1.cell rfl,h.2.2.1.cell rfl,h.2.2.1.cell rfl,h.2.2.1.cell rfl,h.2.2.1.cell rfl,hs⟩
def L4T(B:Nat)(x:Flt)(a1:OA)(c1:Nat)(a2:OA)(c2:Nat)(a3:OA)(c3:Nat)(y:Cpy)(b:Brt)(g:Nat)(c:Cpy)(w:World):Prop :=
 FltIn B x a1 c1 a2 c2 a3 c3 w/\w.cell? (E g 1)=some (Y c.service)/\w.cell? (E (B+1) 1)=some (Y y.service)/\w.cell? (E g 11)=some (Y c.at_)/\w.cell? (E (B+1+1) 1)=some (Y b.zone)
theorem L4In.t{B:Nat}{x:Flt}{a1:OA}{c1:Nat}{a2:OA}{c2:Nat}{a3:OA}{c3:Nat}{y:Cpy}{a7:OA}{c7:Nat}{b:Brt}{am:OA}{cm:Nat}{w:World}(h:L4In B x a1 c1 a2 c2 a3 c3 y a7 c7 b am cm w){g:Nat}{c:Cpy}(h1:w.cell? (E g 1)=some (Y c.service))(h2:w.cell? (E g 11)=some (Y c.at_)):L4T B x a1 c1 a2 c2 a3 c3 y b g c w :=
 ⟨h.flt,h1,h.2.1.cell rfl,h2,h.2.2.1.cell rfl⟩
theorem Fr:(prog.info? 134).map (·.size)=some 4:=by kernel_rfl
theorem CJ:Po 134 4:=⟨_,underlying134,rfl,Fr⟩
theorem iB{l l' z z' n n' f f':Int}(h1:l=l')(h2:z=z')(h3:n=n')(h4:f=f'):Ending.returned (.agg #[X l,X z,X n,X f])=.returned (.agg #[X l',X z',X n',X f']):=by
 subst h1 h2 h3 h4;rfl
theorem Sz(x:Flt)(a1:OA)(c1:Nat)(a2:OA)(c2:Nat)(a3:OA)(c3:Nat)(lo:Nat)(ci:Nat)(y:Cpy)(a7:OA)(c7:Nat)(b:Brt)(am:OA)(cm:Nat)(w:World)(n1:sB lo w a1 x.berths)(n3:sC lo w a3 x.copies)(n7:sK lo w a7 y.likes)(nm:sX lo w am b.marks)(hci:x.copies[ci]?=some y)(hbn:¬b.name=⟨#[]⟩)(hml:b.marks.length<=1000)(hz:b.zone.size<=1000)(hv:Bb x=true)(hbr:0<=b.room/\b.room<=1000) :
  Calls prog 85 #[.agg (ffA x a1 c1 a2 c2 a3 c3),.agg (ccA y a7 c7),.agg (bbA b am cm)] w λe w'=>e=.returned (.agg #[X (Ct (λt=>Il t b.marks b.zone) y.likes y.likes.length),X (((Fc (znF x ci y.service b.zone) x.copies.length:Nat):Int)),X (((Fc (Tc x ci y.service b.name) x.copies.length:Nat):Int)),X (b.room-y.room-Bl x ci b.name x.copies.length)])/\bW w w':=by
 have N1:=iH n1;have N3:=iH n3;have N7:=iH n7;have NM:=iH nm;have HCI:=iH hci;have HBN:=iH hbn;obtain⟨l2,l3,_,hcN,_,_⟩:=Bh hv;obtain⟨l1,_,_,hcp⟩:=Au hv;obtain⟨hyr,hlk,_⟩:=hcp ci y hci;obtain⟨hll,hlw⟩:=Sn hlk;have HLW:=iH hlw;have HCN:=iH hcN;have HCP:Hid (∀(k:Nat)(c:Cpy),x.copies[k]?=some c->0<=c.room/\c.room<=1000):=λk c h=>(hcp k c h).1
 obtain⟨hb0,hb1⟩:=hbr;obtain⟨hy0,hy1⟩:=hyr;clear n1 n3 n7 nm hci hbn hcN hcp hlk hlw hv;go_enter func85,ntmps85;go_wp2_with fail;have e0_0:Blk (w.heap.size) (ffA x a1 c1 a2 c2 a3 c3) 32 (w.alloc (Obj.cells (ffA x a1 c1 a2 c2 a3 c3) 32)):=by
  have h:=Blk.alloc w (ffA x a1 c1 a2 c2 a3 c3) 32;simpa using h
 have e0_1:=e0_0.below ((Below.refl _ (w.alloc (Obj.cells (ffA x a1 c1 a2 c2 a3 c3) 32))).alloc nL (Obj.cells (ccA y a7 c7) 54)) e0_0.lt;have e0_2:=e0_1.below ((Below.refl _ ((w.alloc (Obj.cells (ffA x a1 c1 a2 c2 a3 c3) 32)).alloc (Obj.cells (ccA y a7 c7) 54))).alloc nL (Obj.cells (bbA b am cm) 92)) e0_1.lt;have e0_3:=e0_2.below ((Below.refl _ (((w.alloc (Obj.cells (ffA x a1 c1 a2 c2 a3 c3) 32)).alloc (Obj.cells (ccA y a7 c7) 54)).alloc (Obj.cells (bbA b am cm) 92))).alloc nL (Obj.cells #[X (0),X (0),X (0),X (0)] 134)) e0_2.lt;have e0_4:=e0_3.below ((Below.refl _ ((((w.alloc (Obj.cells (ffA x a1 c1 a2 c2 a3 c3) 32)).alloc (Obj.cells (ccA y a7 c7) 54)).alloc (Obj.cells (bbA b am cm) 92)).alloc (Obj.cells #[X (0),X (0),X (0),X (0)] 134))).alloc nL (Obj.cells #[X (0),X (0),X (0),X (b.room-y.room)] 134)) e0_3.lt;have e1_0:Blk (w.heap.size+1) (ccA y a7 c7) 54 ((w.alloc (Obj.cells (ffA x a1 c1 a2 c2 a3 c3) 32)).alloc (Obj.cells (ccA y a7 c7) 54)):=by
  have h:=Blk.alloc (w.alloc (Obj.cells (ffA x a1 c1 a2 c2 a3 c3) 32)) (ccA y a7 c7) 54;simpa using h
 have e1_2:=e1_0.below ((Below.refl _ ((w.alloc (Obj.cells (ffA x a1 c1 a2 c2 a3 c3) 32)).alloc (Obj.cells (ccA y a7 c7) 54))).alloc nL (Obj.cells (bbA b am cm) 92)) e1_0.lt;have e1_3:=e1_2.below ((Below.refl _ (((w.alloc (Obj.cells (ffA x a1 c1 a2 c2 a3 c3) 32)).alloc (Obj.cells (ccA y a7 c7) 54)).alloc (Obj.cells (bbA b am cm) 92))).alloc nL (Obj.cells #[X (0),X (0),X (0),X (0)] 134)) e1_2.lt;have e1_4:=e1_3.below ((Below.refl _ ((((w.alloc (Obj.cells (ffA x a1 c1 a2 c2 a3 c3) 32)).alloc (Obj.cells (ccA y a7 c7) 54)).alloc (Obj.cells (bbA b am cm) 92)).alloc (Obj.cells #[X (0),X (0),X (0),X (0)] 134))).alloc nL (Obj.cells #[X (0),X (0),X (0),X (b.room-y.room)] 134)) e1_3.lt;have e2_0:Blk (w.heap.size+1+1) (bbA b am cm) 92 (((w.alloc (Obj.cells (ffA x a1 c1 a2 c2 a3 c3) 32)).alloc (Obj.cells (ccA y a7 c7) 54)).alloc (Obj.cells (bbA b am cm) 92)):=by
  have h:=Blk.alloc ((w.alloc (Obj.cells (ffA x a1 c1 a2 c2 a3 c3) 32)).alloc (Obj.cells (ccA y a7 c7) 54)) (bbA b am cm) 92;simpa using h
 have e2_3:=e2_0.below ((Below.refl _ (((w.alloc (Obj.cells (ffA x a1 c1 a2 c2 a3 c3) 32)).alloc (Obj.cells (ccA y a7 c7) 54)).alloc (Obj.cells (bbA b am cm) 92))).alloc nL (Obj.cells #[X (0),X (0),X (0),X (0)] 134)) e2_0.lt;have e2_4:=e2_3.below ((Below.refl _ ((((w.alloc (Obj.cells (ffA x a1 c1 a2 c2 a3 c3) 32)).alloc (Obj.cells (ccA y a7 c7) 54)).alloc (Obj.cells (bbA b am cm) 92)).alloc (Obj.cells #[X (0),X (0),X (0),X (0)] 134))).alloc nL (Obj.cells #[X (0),X (0),X (0),X (b.room-y.room)] 134)) e2_3.lt;have e3_0:Blk (w.heap.size+1+1+1) #[X (0),X (0),X (0),X (0)] 134 ((((w.alloc (Obj.cells (ffA x a1 c1 a2 c2 a3 c3) 32)).alloc (Obj.cells (ccA y a7 c7) 54)).alloc (Obj.cells (bbA b am cm) 92)).alloc (Obj.cells #[X (0),X (0),X (0),X (0)] 134)):=by
  have h:=Blk.alloc (((w.alloc (Obj.cells (ffA x a1 c1 a2 c2 a3 c3) 32)).alloc (Obj.cells (ccA y a7 c7) 54)).alloc (Obj.cells (bbA b am cm) 92)) #[X (0),X (0),X (0),X (0)] 134;simpa using h
 have e3_4:=e3_0.below ((Below.refl _ ((((w.alloc (Obj.cells (ffA x a1 c1 a2 c2 a3 c3) 32)).alloc (Obj.cells (ccA y a7 c7) 54)).alloc (Obj.cells (bbA b am cm) 92)).alloc (Obj.cells #[X (0),X (0),X (0),X (0)] 134))).alloc nL (Obj.cells #[X (0),X (0),X (0),X (b.room-y.room)] 134)) e3_0.lt;have e4_0:Blk (w.heap.size+1+1+1+1) #[X (0),X (0),X (0),X (b.room-y.room)] 134 (((((w.alloc (Obj.cells (ffA x a1 c1 a2 c2 a3 c3) 32)).alloc (Obj.cells (ccA y a7 c7) 54)).alloc (Obj.cells (bbA b am cm) 92)).alloc (Obj.cells #[X (0),X (0),X (0),X (0)] 134)).alloc (Obj.cells #[X (0),X (0),X (0),X (b.room-y.room)] 134)):=by
  have h:=Blk.alloc ((((w.alloc (Obj.cells (ffA x a1 c1 a2 c2 a3 c3) 32)).alloc (Obj.cells (ccA y a7 c7) 54)).alloc (Obj.cells (bbA b am cm) 92)).alloc (Obj.cells #[X (0),X (0),X (0),X (0)] 134)) #[X (0),X (0),X (0),X (b.room-y.room)] 134;simpa using h
 have HI0:Hid (L4In w.heap.size x a1 c1 a2 c2 a3 c3 y a7 c7 b am cm (((((w.alloc (Obj.cells (ffA x a1 c1 a2 c2 a3 c3) 32)).alloc (Obj.cells (ccA y a7 c7) 54)).alloc (Obj.cells (bbA b am cm) 92)).alloc (Obj.cells #[X (0),X (0),X (0),X (0)] 134)).alloc (Obj.cells #[X (0),X (0),X (0),X (b.room-y.room)] 134))):=⟨e0_4,e1_4,e2_4,e3_4⟩;have HO0:=iH e4_0;have HB0:Hid (bW w (((((w.alloc (Obj.cells (ffA x a1 c1 a2 c2 a3 c3) 32)).alloc (Obj.cells (ccA y a7 c7) 54)).alloc (Obj.cells (bbA b am cm) 92)).alloc (Obj.cells #[X (0),X (0),X (0),X (0)] 134)).alloc (Obj.cells #[X (0),X (0),X (0),X (b.room-y.room)] 134))):=by show Below _ _ _;go_grown
 clear e0_0 e0_1 e0_2 e0_3 e0_4 e1_0 e1_2 e1_3 e1_4 e2_0 e2_3 e2_4 e3_0 e3_4 e4_0;generalize(((((w.alloc (Obj.cells (ffA x a1 c1 a2 c2 a3 c3) 32)).alloc (Obj.cells (ccA y a7 c7) 54)).alloc (Obj.cells (bbA b am cm) 92)).alloc (Obj.cells #[X (0),X (0),X (0),X (0)] 134)).alloc (Obj.cells #[X (0),X (0),X (0),X (b.room-y.room)] 134))=w0 at *;go_loopw [8] (λi wr=>∃(k:Nat)(L:Int),k<=y.likes.length/\i=X k/\-100<=L/\L<=100/\Hid (L=Ct (λt=>Il t b.marks b.zone) y.likes k)/\Hid (L4In w.heap.size x a1 c1 a2 c2 a3 c3 y a7 c7 b am cm wr)/\Hid (Blk (w.heap.size+1+1+1+1) #[X (L),X (0),X (0),X (b.room-y.room)] 134 wr)/\Hid (bW w wr)) (λi _=>y.likes.length-(intOf i).toNat)
 case atStart=>exact⟨0,0,zL,rfl,by omega,by omega,rfl,HI0,HO0,HB0⟩
 clear HI0 HO0 HB0;obtain⟨k,L,hk,rfl,hL0,hL1,hL,hI,hO,hB⟩:=hrel;have p7:wr.cell? (E (w.heap.size+1) 7)=some (.slice a7 y.likes.length c7):=hI.out.2.1.cell rfl;by_cases hlt:k<y.likes.length
 .obtain⟨l,hl⟩:=gXe hlt
  obtain⟨b7,o7,rfl,_,_,hc⟩:=(N7.out.below LikC.holds hB.out nL).at hl;obtain⟨q0,q1,z0⟩:=hc;simp only[Nat.add_zero]at q0;have HLL:=iH hl;have HZ0:=iH z0;have HQ0:=iH q0;have HQ1:=iH q1;have hwt:=HLW.out k l hl;obtain⟨bb,hbb⟩:∃bb,Il l.select b.marks b.zone=bb:=⟨_,rfl⟩;clear hl z0 q0 q1;go_upto_region 5 with fail;refine wp_region_held_drew (S:=L4R w.heap.size y (O b7 o7) c7 b am cm b7 (o7+k*2) l.select) (by kernel_rfl) (hI.out.drew.r (by simpa using HQ0.out)) (λhS=>?_);refine x8 0 24 (pP (w.heap.size+1) 7) ?_;refine x8 1 25 (sP b7 o7 y.likes.length c7) ?_;refine x8 2 26 (X (k:Int)) ?_;refine x8 3 27 (pP b7 (o7+k*2)) ?_;refine x8 4 28 (pP b7 (o7+k*2)) ?_;refine x8 5 29 (Y l.select) ?_;refine x8 6 30 (.agg (bbA b am cm)) ?_;refine rd1 7 ⟨some 31,_,_,_,_,none⟩ rfl (λK hK=>?_);go_simp;refine(Qn l.select b.name b.zone b.marks am cm lo b.room b.hold b.closed _ (NM.out.below StrC.holds hB.out.drew nL) hml hz HZ0).mono ?_;rintro e w5⟨rfl,hb5⟩;rw[hbb];have hd5:bW wr w5:=(Below.refl _ wr).drew.trans hb5;have HB5:=qTH hB hd5;have HI5:Hid (L4In w.heap.size x a1 c1 a2 c2 a3 c3 y (O b7 o7) c7 b am cm w5):=hI.out.below hd5;have HO5:Hid (Blk (w.heap.size+1+1+1+1) #[X (L),X (0),X (0),X (b.room-y.room)] 134 w5):=hO.out.below hd5 hO.out.lt;have r0:w5.cell? (E b7 (o7+k*2))=some (Y l.select):=(hd5.cell (p:=(E b7 (o7+k*2))) (block_lt_of_cell HQ0)).trans HQ0;have r1:w5.cell? (E b7 (o7+k*2+1))=some (X l.weight):=(hd5.cell (p:=(E b7 (o7+k*2+1))) (block_lt_of_cell HQ1)).trans HQ1;refine hK.out _ _ (HI5.out.r r0) (λhS=>?_);clear hK K hb5 hd5;refine td ?_;clear hS;have p7':w5.cell? (E (w.heap.size+1) 7)=some (sP b7 o7 y.likes.length c7):=HI5.out.2.1.cell rfl;have g0:w5.cell? (E (w.heap.size+1+1+1+1) 0)=some (X L):=HO5.out.cell rfl;have f0:w5.frozen? (E (w.heap.size+1+1+1+1) 0)=false:=HO5.out.frozen 0
  cases bb with
  | true =>
   have HE:Hid (Ct (λt=>Il t b.marks b.zone) y.likes (k+1)=Ct (λt=>Il t b.marks b.zone) y.likes k+l.weight):=Ua HLL hbb;have hbd:=Rn (f:=(λt=>Il t b.marks b.zone)) HLW k;have hLe:=hL.out;have hx0:-100<=L+l.weight:=by omega
   have hx1:L+l.weight<=100:=by omega
   clear hbd hLe;go_wp2_with fail
   go_region
   go_wp2
   go_roundw
   case rel =>
    have h1:=HO5.out.set 0 (X (L+l.weight));exact⟨k+1,L+l.weight,by omega,by go_num,hx0,hx1,by show _=_;rw[HE.out,hL.out],(HI5.out.set 0 _).drew,h1.drew,(HB5.out.setCell (p:=(E (w.heap.size+1+1+1+1) 0)) (by show w.heap.size<=w.heap.size+1+1+1+1;omega) _).drew⟩
   simp[intOf];omega
  |false =>
   have HE:Hid (Ct (λt=>Il t b.marks b.zone) y.likes (k+1)=Ct (λt=>Il t b.marks b.zone) y.likes k):=Yw HLL hbb
   go_wp2
   go_roundw
   case rel=>exact⟨k+1,L,by omega,by go_num,hL0,hL1,by show _=_;rw[HE.out,hL.out],HI5,HO5,HB5⟩
   simp[intOf];omega
 have hke:k=y.likes.length:=by omega
 subst hke;have HL:=iH hL.out
 go_wp2
 go_loopw [9] (λi wr=>∃(k:Nat)(Z N F:Int),k<=x.copies.length/\i=X k/\0<=Z/\Z<=60/\0<=N/\N<=60/\-70000<=F/\F<=1000/\Hid (Z=(Fc (znF x ci y.service b.zone) k:Nat))/\Hid (N=(Fc (Tc x ci y.service b.name) k:Nat))/\Hid (F=b.room-y.room-Bl x ci b.name k)/\Hid (L4In w.heap.size x a1 c1 a2 c2 a3 c3 y a7 c7 b am cm wr)/\Hid (Blk (w.heap.size+1+1+1+1) #[X (L),X (Z),X (N),X (F)] 134 wr)/\Hid (bW w wr)) (λi _=>x.copies.length-(intOf i).toNat)
 case atStart=>exact⟨0,0,0,b.room-y.room,zL,rfl,by omega,by omega,by omega,by omega,by omega,by omega,rfl,rfl,by show _=_;simp[Bl],hI,hO,hB⟩
 clear hI hO hB p7 hL hlt hk;obtain⟨k,Z,N,F,hk,rfl,hZ0,hZ1,hN0,hN1,hF0,hF1,hZ,hN,hF,hI,hO,hB⟩:=hrel;have p3:wr.cell? (E w.heap.size 3)=some (.slice a3 x.copies.length c3):=hI.out.1.cell rfl;by_cases hlt:k<x.copies.length
 .obtain⟨c,hck⟩:=gXe hlt
  obtain⟨cb,co,rfl,_,_,hc⟩:=(N3.out.below CpyC.holds hB.out nL).at hck;obtain⟨a8,c8,q0,q1,q2,q3,q4,q5,q6,q7,q8,q9,q10,q11,z0,z1,z6,z9,z10,z11,z7⟩:=hc;simp only[Nat.add_zero]at q0 q1 q2 q3 q4 q5 q6 q7 q8 q9 q10 q11;have HRA:Hid (wr.rangeAt cb (co+k*12) (ccL c a8 c8)):=Aa q0 (Aa q1 (Aa q2 (Aa q3 (Aa q4 (Aa q5 (Aa q6 (Aa q7 (Aa q8 (Aa q9 (Aa q10 (Aa q11 (Am _ _ _))))))))))));have HX:=iH hck;obtain⟨hr0,hr1⟩:=HCP.out k c hck;have HSM:Hid (k=ci↔c.name=y.name):=by
   constructor
   .rintro rfl
    have:=HCI.out;rw[hck]at this;cases this
    rfl
   intro e;exact HCN.out.inj (Fl (f:=(·.name)) hck) (by rw[Fl (f:=(·.name)) HCI.out,e])
  have HRB:=iH (Jt ci b.name HCP (k+1));have HZB:=iH (Uh (znF x ci y.service b.zone) (k+1));have HNB:=iH (Uh (Tc x ci y.service b.name) (k+1));clear hck q0 q1 q2 q3 q4 q5 q6 q7 q8 q9 q10 q11 z0 z1 z6 z7 z9 z10 z11;go_upto_region 11 with(first|(refine qLr Hb HRA ?_));have hbx:=(Below.refl _ wr).alloc nL (Obj.cells (ccA c a8 c8) 54);have HX4:=iH (Blk.alloc wr (ccA c a8 c8) 54);have HI4:=iH (hI.out.below hbx);have HO4:Hid (Blk (w.heap.size+1+1+1+1) #[X (L),X (Z),X (N),X (F)] 134 (wr.alloc (Obj.cells (ccA c a8 c8) 54))):=hO.out.below hbx hO.out.lt;have HB4:=qTH hB hbx;have hbk:w.heap.size+1+1+1+1<wr.heap.size:=hO.out.lt;clear HRA hbx hI hO hB p3;generalize(wr.alloc (Obj.cells (ccA c a8 c8) 54))=w4 at *;have y0:w4.cell? (E (w.heap.size+1) 0)=some (Y y.name):=HI4.out.2.1.cell rfl;have y1:w4.cell? (E (w.heap.size+1) 1)=some (Y y.service):=HI4.out.2.1.cell rfl;have zb0:w4.cell? (E (w.heap.size+1+1) 0)=some (Y b.name):=HI4.out.2.2.1.cell rfl;have g0:w4.cell? (E wr.heap.size 0)=some (Y c.name):=HX4.out.cell rfl;have g1:w4.cell? (E wr.heap.size 1)=some (Y c.service):=HX4.out.cell rfl;have g4:w4.cell? (E wr.heap.size 4)=some (X c.room):=HX4.out.cell rfl;have g11:w4.cell? (E wr.heap.size 11)=some (Y c.at_):=HX4.out.cell rfl;have o2:w4.cell? (E (w.heap.size+1+1+1+1) 2)=some (X (N)):=HO4.out.cell rfl;have v2:w4.frozen? (E (w.heap.size+1+1+1+1) 2)=false:=HO4.out.frozen 2;have o3:w4.cell? (E (w.heap.size+1+1+1+1) 3)=some (X (F)):=HO4.out.cell rfl;have v3:w4.frozen? (E (w.heap.size+1+1+1+1) 3)=false:=HO4.out.frozen 3;by_cases hnm:c.name=y.name
  .have htn:=Bm hnm
   have hkc:=HSM.out.2 hnm;have HZE:=iH (Cw (Hm (sv:=y.service) (z:=b.zone) HX (λh=>h.1 hkc)));have HNE:=iH (Cw (Om (sv:=y.service) (nm:=b.name) HX (λh=>h.1 hkc)));have HFE:=iH (Ij (nm:=b.name) HX (λh=>h.2 hkc));clear hnm hkc
   go_wp2
   go_roundw
   case rel=>exact⟨k+1,Z,N,F,by omega,by go_num,hZ0,hZ1,hN0,hN1,hF0,hF1,by show _=_;rw[HZE.out,hZ.out],by show _=_;rw[HNE.out,hN.out],by show _=_;rw[HFE.out,hF.out],HI4,HO4,HB4⟩
   simp[intOf];omega
  have htn:=Bn hnm;have hkc:k≠ci:=λh=>hnm (HSM.out.1 h)
  clear hnm;by_cases hat:c.at_=⟨#[]⟩
  .have HZE:=iH (Cw (Hm (ci:=ci) (sv:=y.service) (z:=b.zone) HX (λh=>h.2.2.1 hat)))
   have hab:¬c.at_=b.name:=λh=>HBN.out (h.symm.trans hat)
   have HNE:=iH (Cw (Om (ci:=ci) (sv:=y.service) (nm:=b.name) HX (λh=>hab h.2.2)));have HFE:=iH (Ij (ci:=ci) (nm:=b.name) HX (λh=>hab h.1));have hte:=Cz hat;have hte2:c.at_.toList.isEmpty=true:=by rw[hte];rfl
   clear hat hab hkc
   go_wp2
   go_roundw
   case rel=>exact⟨k+1,Z,N,F,by omega,by go_num,hZ0,hZ1,hN0,hN1,hF0,hF1,by show _=_;rw[HZE.out,hZ.out],by show _=_;rw[HNE.out,hN.out],by show _=_;rw[HFE.out,hF.out],HI4,HO4,HB4⟩
   simp[intOf];omega
  have hte:=Bt hat;have hte2:c.at_.toList.isEmpty=false:=by
   try unfold bbA ccA ffA
   cases h:c.at_.toList with
   |nil=>exact absurd h hte
   |cons a l=>rfl
  have HAT:=iH hat;clear hat;by_cases hab:c.at_=b.name
  .have hta:=Bm hab
   have HFE:=iH (Ys (nm:=b.name) HX hab hkc);have HAB:=iH hab;clear hab;have hF2:-70000<=F-c.room/\F-c.room<=1000:=by
    have h1:=HRB.out;have h2:=hF.out;rw[HFE.out]at h1;omega
   obtain⟨hF2,hF3⟩:=hF2;go_upto_region 14 with fail;have HI5:=iH (HI4.out.set 3 (X (F-c.room)));have HO5:Hid (Blk (w.heap.size+1+1+1+1) #[X (L),X (Z),X (N),X (F-c.room)] 134 (w4.setCell (E (w.heap.size+1+1+1+1) 3) (X (F-c.room)))):=HO4.out.set 3 _;have HX5:Hid (Blk wr.heap.size (ccA c a8 c8) 54 (w4.setCell (E (w.heap.size+1+1+1+1) 3) (X (F-c.room)))):=HX4.out.other (by show wr.heap.size≠w.heap.size+1+1+1+1;omega) _;have HB5:Hid (bW w (w4.setCell (E (w.heap.size+1+1+1+1) 3) (X (F-c.room)))):=HB4.out.setCell (by show w.heap.size<=w.heap.size+1+1+1+1;omega) _;clear y0 y1 zb0 g0 g1 g4 g11 o2 v2 o3 v3 HI4 HO4 HX4 HB4;generalize w4.setCell (E (w.heap.size+1+1+1+1) 3) (X (F-c.room))=w5 at *;have y0:w5.cell? (E (w.heap.size+1) 0)=some (Y y.name):=HI5.out.2.1.cell rfl;have y1:w5.cell? (E (w.heap.size+1) 1)=some (Y y.service):=HI5.out.2.1.cell rfl;have zb0:w5.cell? (E (w.heap.size+1+1) 0)=some (Y b.name):=HI5.out.2.2.1.cell rfl;have g0:w5.cell? (E wr.heap.size 0)=some (Y c.name):=HX5.out.cell rfl;have g1:w5.cell? (E wr.heap.size 1)=some (Y c.service):=HX5.out.cell rfl;have g4:w5.cell? (E wr.heap.size 4)=some (X c.room):=HX5.out.cell rfl;have g11:w5.cell? (E wr.heap.size 11)=some (Y c.at_):=HX5.out.cell rfl;have o2:w5.cell? (E (w.heap.size+1+1+1+1) 2)=some (X (N)):=HO5.out.cell rfl;have v2:w5.frozen? (E (w.heap.size+1+1+1+1) 2)=false:=HO5.out.frozen 2;have o3:w5.cell? (E (w.heap.size+1+1+1+1) 3)=some (X (F-c.room)):=HO5.out.cell rfl;have v3:w5.frozen? (E (w.heap.size+1+1+1+1) 3)=false:=HO5.out.frozen 3;by_cases hsv:c.service=y.service
   .have hts:=Bm hsv
    have HNE:=iH (Ks (mL HX hkc hsv HAB));have HSV:=iH hsv;clear hsv;have hN2:N+1<=60:=by
     have h1:=HNB.out;rw[HNE.out]at h1;have h2:=hN.out;omega
    go_upto_region 16 with fail;have HI6:=iH (HI5.out.set 2 (X (N+1)));have HO6:Hid (Blk (w.heap.size+1+1+1+1) #[X (L),X (Z),X (N+1),X (F-c.room)] 134 (w5.setCell (E (w.heap.size+1+1+1+1) 2) (X (N+1)))):=HO5.out.set 2 _;have HX6:Hid (Blk wr.heap.size (ccA c a8 c8) 54 (w5.setCell (E (w.heap.size+1+1+1+1) 2) (X (N+1)))):=HX5.out.other (by show wr.heap.size≠w.heap.size+1+1+1+1;omega) _;have HB6:Hid (bW w (w5.setCell (E (w.heap.size+1+1+1+1) 2) (X (N+1)))):=HB5.out.setCell (by show w.heap.size<=w.heap.size+1+1+1+1;omega) _;clear y0 y1 zb0 g0 g1 g4 g11 o2 v2 o3 v3 HI5 HO5 HX5 HB5;generalize w5.setCell (E (w.heap.size+1+1+1+1) 2) (X (N+1))=w6 at *;obtain⟨zz,hzz⟩:∃zz,((Cu x.berths c.at_).toList==b.zone.toList)=zz:=⟨_,rfl⟩;have hbk6:wr.heap.size<w6.heap.size:=HX6.out.lt;refine wp_region_held_drew (S:=L4T w.heap.size x a1 c1 a2 c2 (O cb co) c3 y b wr.heap.size c) (by kernel_rfl) (HI6.out.drew.t (HX6.out.drew.cell rfl) (HX6.out.drew.cell rfl)) (λhS=>?_);refine x0 0 91 (pP wr.heap.size 1) ?_;refine x0 1 92 (Y c.service) ?_;refine x0 2 93 (pP (w.heap.size+1) 1) ?_;refine x0 3 94 (Y y.service) ?_;refine x0 4 95 (.bool true) ?_;refine x0 5 96 (.bool true) ?_;refine x0 6 97 (.agg (ffA x a1 c1 a2 c2 (O cb co) c3)) ?_;refine x0 7 98 (pP wr.heap.size 11) ?_;refine x0 8 99 (Y c.at_) ?_;refine x0 10 101 (pP (w.heap.size+1+1) 1) ?_;refine x0 11 102 (Y b.zone) ?_;refine rd1 9 ⟨some 100,_,_,_,_,some (5,true)⟩ rfl (λK hK=>?_);go_simp;refine(Ig x a1 c1 a2 c2 (O cb co) c3 lo c.at_ _ (N1.out.below BrtC.holds HB6.out.drew nL) (by omega)).mono ?_;rintro e w7⟨rfl,hb7⟩;have hd7:bW w6 w7:=(Below.refl _ w6).drew.trans hb7;have HB7:=qTH HB6 hd7;have HI7:=iH (HI6.out.below hd7);have HO7:=qBk HO6 hd7;have HX7:=qBk HX6 hd7;refine hK.out _ _ (HI7.out.t (HX7.out.cell rfl) (HX7.out.cell rfl)) (λhS=>?_);clear hK K hb7 hd7;refine x0 12 103 (.bool zz) ?_;refine x0 13 104 (.bool zz) ?_;refine td ?_;clear hS;have o1:w7.cell? (E (w.heap.size+1+1+1+1) 1)=some (X Z):=HO7.out.cell rfl;have v1:w7.frozen? (E (w.heap.size+1+1+1+1) 1)=false:=HO7.out.frozen 1
    cases zz with
    | true =>
     have hzo:Cu x.berths c.at_=b.zone:=Classical.byContradiction λh=>by rw[Bn h]at hzz;cases hzz
     have HZE:=iH (Ks (Uf HX hkc HSV HAT hzo));have hZ2:Z+1<=60:=by
      have h1:=HZB.out;rw[HZE.out]at h1;have h2:=hZ.out;omega
     clear hzo
     go_wp2
     go_roundw
     case rel=>exact⟨k+1,Z+1,N+1,F-c.room,by omega,by go_num,by omega,hZ2,by omega,by omega,by omega,by omega,by show _=_;rw[HZE.out,hZ.out];omega,by show _=_;rw[HNE.out,hN.out];omega,by show _=_;rw[HFE.out,hF.out];omega,HI7.out.set 1 _,HO7.out.set 1 _,HB7.out.setCell (p:=(E (w.heap.size+1+1+1+1) 1)) (by show w.heap.size<=w.heap.size+1+1+1+1;omega) _⟩
     simp[intOf];omega
    |false =>
     have hzo:¬Cu x.berths c.at_=b.zone:=λh=>by rw[Bm h]at hzz;cases hzz
     have HZE:=iH (Cw (Hm (ci:=ci) (sv:=y.service) HX (λh=>hzo h.2.2.2)));clear hzo
     go_wp2
     go_roundw
     case rel=>exact⟨k+1,Z,N+1,F-c.room,by omega,by go_num,hZ0,hZ1,by omega,by omega,by omega,by omega,by show _=_;rw[HZE.out,hZ.out],by show _=_;rw[HNE.out,hN.out];omega,by show _=_;rw[HFE.out,hF.out];omega,HI7,HO7,HB7⟩
     simp[intOf];omega
   have hts:=Bn hsv;have HNE:=iH (Cw (Om (ci:=ci) (nm:=b.name) HX (λh=>hsv h.2.1)));have HSV:=iH hsv;clear hsv;go_upto_region 16 with fail;have HI6:=HI5;have HO6:=HO5;have HX6:=HX5;have HB6:=HB5;clear y0 y1 zb0 g0 g1 g4 g11 o2 v2 o3 v3;have HZE:=iH (Cw (Hm (ci:=ci) (z:=b.zone) HX (λh=>HSV.out h.2.1)));generalize w5=w6 at *;have hbk6:wr.heap.size<w6.heap.size:=HX6.out.lt;refine wp_region_held_drew (S:=L4T w.heap.size x a1 c1 a2 c2 (O cb co) c3 y b wr.heap.size c) (by kernel_rfl) (HI6.out.drew.t (HX6.out.drew.cell rfl) (HX6.out.drew.cell rfl)) (λhS=>?_);refine x0 0 91 (pP wr.heap.size 1) ?_;refine x0 1 92 (Y c.service) ?_;refine x0 2 93 (pP (w.heap.size+1) 1) ?_;refine x0 3 94 (Y y.service) ?_;refine x0 4 95 (.bool false) ?_;refine x0 5 96 (.bool false) ?_;refine ts 6 97 ?_;refine ts 7 98 ?_;refine ts 8 99 ?_;refine ts 9 100 ?_;refine ts 10 101 ?_;refine ts 11 102 ?_;refine ts 12 103 ?_;refine x0 13 104 (.bool false) ?_;refine td ?_;clear hS
   go_wp2
   go_roundw
   case rel=>exact⟨k+1,Z,N,F-c.room,by omega,by go_num,hZ0,hZ1,by omega,by omega,by omega,by omega,by show _=_;rw[HZE.out,hZ.out],by show _=_;rw[HNE.out,hN.out],by show _=_;rw[HFE.out,hF.out];omega,HI6.out.drew,HO6.out.drew,HB6.out.drew⟩
   simp[intOf];omega
  have hta:=Bn hab;have HFE:=iH (Ij (ci:=ci) (nm:=b.name) HX (λh=>hab h.1));have HNE:=iH (Cw (Om (ci:=ci) (sv:=y.service) (nm:=b.name) HX (λh=>hab h.2.2)));clear hab;by_cases hsv:c.service=y.service
  .have hts:=Bm hsv
   have HSV:=iH hsv;clear hsv;go_upto_region 16 with fail;have HI6:=HI4;have HO6:=HO4;have HX6:=HX4;have HB6:=HB4;clear y0 y1 zb0 g0 g1 g4 g11 o2 v2 o3 v3;generalize w4=w6 at *;obtain⟨zz,hzz⟩:∃zz,((Cu x.berths c.at_).toList==b.zone.toList)=zz:=⟨_,rfl⟩;have hbk6:wr.heap.size<w6.heap.size:=HX6.out.lt;refine wp_region_held_drew (S:=L4T w.heap.size x a1 c1 a2 c2 (O cb co) c3 y b wr.heap.size c) (by kernel_rfl) (HI6.out.drew.t (HX6.out.drew.cell rfl) (HX6.out.drew.cell rfl)) (λhS=>?_);refine x0 0 91 (pP wr.heap.size 1) ?_;refine x0 1 92 (Y c.service) ?_;refine x0 2 93 (pP (w.heap.size+1) 1) ?_;refine x0 3 94 (Y y.service) ?_;refine x0 4 95 (.bool true) ?_;refine x0 5 96 (.bool true) ?_;refine x0 6 97 (.agg (ffA x a1 c1 a2 c2 (O cb co) c3)) ?_;refine x0 7 98 (pP wr.heap.size 11) ?_;refine x0 8 99 (Y c.at_) ?_;refine x0 10 101 (pP (w.heap.size+1+1) 1) ?_;refine x0 11 102 (Y b.zone) ?_;refine rd1 9 ⟨some 100,_,_,_,_,some (5,true)⟩ rfl (λK hK=>?_);go_simp;refine(Ig x a1 c1 a2 c2 (O cb co) c3 lo c.at_ _ (N1.out.below BrtC.holds HB6.out.drew nL) (by omega)).mono ?_;rintro e w7⟨rfl,hb7⟩;have hd7:bW w6 w7:=(Below.refl _ w6).drew.trans hb7;have HB7:=qTH HB6 hd7;have HI7:=iH (HI6.out.below hd7);have HO7:=qBk HO6 hd7;have HX7:=qBk HX6 hd7;refine hK.out _ _ (HI7.out.t (HX7.out.cell rfl) (HX7.out.cell rfl)) (λhS=>?_);clear hK K hb7 hd7;refine x0 12 103 (.bool zz) ?_;refine x0 13 104 (.bool zz) ?_;refine td ?_;clear hS;have o1:w7.cell? (E (w.heap.size+1+1+1+1) 1)=some (X Z):=HO7.out.cell rfl;have v1:w7.frozen? (E (w.heap.size+1+1+1+1) 1)=false:=HO7.out.frozen 1
   cases zz with
   | true =>
    have hzo:Cu x.berths c.at_=b.zone:=Classical.byContradiction λh=>by rw[Bn h]at hzz;cases hzz
    have HZE:=iH (Ks (Uf HX hkc HSV HAT hzo));have hZ2:Z+1<=60:=by
     have h1:=HZB.out;rw[HZE.out]at h1;have h2:=hZ.out;omega
    clear hzo
    go_wp2
    go_roundw
    case rel=>exact⟨k+1,Z+1,N,F,by omega,by go_num,by omega,hZ2,by omega,by omega,by omega,by omega,by show _=_;rw[HZE.out,hZ.out];omega,by show _=_;rw[HNE.out,hN.out],by show _=_;rw[HFE.out,hF.out],HI7.out.set 1 _,HO7.out.set 1 _,HB7.out.setCell (p:=(E (w.heap.size+1+1+1+1) 1)) (by show w.heap.size<=w.heap.size+1+1+1+1;omega) _⟩
    simp[intOf];omega
   |false =>
    have hzo:¬Cu x.berths c.at_=b.zone:=λh=>by rw[Bm h]at hzz;cases hzz
    have HZE:=iH (Cw (Hm (ci:=ci) (sv:=y.service) HX (λh=>hzo h.2.2.2)));clear hzo
    go_wp2
    go_roundw
    case rel=>exact⟨k+1,Z,N,F,by omega,by go_num,hZ0,hZ1,by omega,by omega,by omega,by omega,by show _=_;rw[HZE.out,hZ.out],by show _=_;rw[HNE.out,hN.out],by show _=_;rw[HFE.out,hF.out],HI7,HO7,HB7⟩
    simp[intOf];omega
  have hts:=Bn hsv;have HSV:=iH hsv;clear hsv;go_upto_region 16 with fail;have HI6:=HI4;have HO6:=HO4;have HX6:=HX4;have HB6:=HB4;clear y0 y1 zb0 g0 g1 g4 g11 o2 v2 o3 v3;have HZE:=iH (Cw (Hm (ci:=ci) (z:=b.zone) HX (λh=>HSV.out h.2.1)));generalize w4=w6 at *;have hbk6:wr.heap.size<w6.heap.size:=HX6.out.lt;refine wp_region_held_drew (S:=L4T w.heap.size x a1 c1 a2 c2 (O cb co) c3 y b wr.heap.size c) (by kernel_rfl) (HI6.out.drew.t (HX6.out.drew.cell rfl) (HX6.out.drew.cell rfl)) (λhS=>?_);refine x0 0 91 (pP wr.heap.size 1) ?_;refine x0 1 92 (Y c.service) ?_;refine x0 2 93 (pP (w.heap.size+1) 1) ?_;refine x0 3 94 (Y y.service) ?_;refine x0 4 95 (.bool false) ?_;refine x0 5 96 (.bool false) ?_;refine ts 6 97 ?_;refine ts 7 98 ?_;refine ts 8 99 ?_;refine ts 9 100 ?_;refine ts 10 101 ?_;refine ts 11 102 ?_;refine ts 12 103 ?_;refine x0 13 104 (.bool false) ?_;refine td ?_;clear hS
  go_wp2
  go_roundw
  case rel=>exact⟨k+1,Z,N,F,by omega,by go_num,hZ0,hZ1,by omega,by omega,by omega,by omega,by show _=_;rw[HZE.out,hZ.out],by show _=_;rw[HNE.out,hN.out],by show _=_;rw[HFE.out,hF.out],HI6.out.drew,HO6.out.drew,HB6.out.drew⟩
  simp[intOf];omega
 have hke:k=x.copies.length:=by omega
 subst hke;have o0:wr.cell? (E (w.heap.size+1+1+1+1) 0)=some (X L):=hO.out.cell rfl;have o1:wr.cell? (E (w.heap.size+1+1+1+1) 1)=some (X Z):=hO.out.cell rfl;have o2:wr.cell? (E (w.heap.size+1+1+1+1) 2)=some (X N):=hO.out.cell rfl;have o3:wr.cell? (E (w.heap.size+1+1+1+1) 3)=some (X F):=hO.out.cell rfl;have HT:=iH hI.out.2.2.2.there;have HR10:=iH (World.rangeAt_setCells_same wr (w.heap.size+1+1+1) 0 [X (L),X (Z),X (N),X (F)] hI.out.2.2.2.there);have HB10:Hid (bW w (wr.setCells (w.heap.size+1+1+1) 0 [X (L),X (Z),X (N),X (F)])):=Ae (by omega) _ _ _ hB.out;obtain⟨w10,HW10⟩:∃w10,Hid (w10=wr.setCells (w.heap.size+1+1+1) 0 [X (L),X (Z),X (N),X (F)]):=⟨_,rfl⟩;rw[<-HW10.out]at HR10 HB10;go_wp2_with(first|(refine Ai rfl 134 _ _ rfl (w.heap.size+1+1+1) 0 #[X (L),X (Z),X (N),X (F)] rfl rfl HT Fr (by simp[Value.oneCell']) w10 HW10 ?_));exact bodyPost_ret (Ay rfl _ _ (w.heap.size+1+1+1) [X (L),X (Z),X (N),X (F)] _ rfl HR10 underlying134 rfl Fr) rfl ⟨iB HL hZ.out hN.out hF.out,HB10⟩
end Go.Proofs.YthboopnmbglkjaaGreat
