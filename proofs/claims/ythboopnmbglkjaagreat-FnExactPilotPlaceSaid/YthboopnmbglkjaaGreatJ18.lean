import Derived.Test.YthboopnmbglkjaaGreatJ17
import Derived.Laws.ResultCell
import Derived.Test.YthboopnmbglkjaaGreatJ14
set_option maxHeartbeats 8000000
namespace Go.Proofs.YthboopnmbglkjaaGreat
open Tryz
set_option maxRecDepth 100000
open Go.RowKit Tryz
def xC(ns:List P.Nd):Bool:=match P.kidsOf ns with|some (_,[_])=>true|_=>false
def Pr(len:Nat)(n:P.Nd):Bool:=!(decide (0<=n.kind/\n.kind<=5)&&decide (n.kids=P.arity n.kind)&&!(decide (n.kind=0)&&decide (1<len)))
def We(n:P.Nd):Bool:=!((if n.kind=1\/n.kind=2 then P.nameOk n.name else decide (n.name.size=0))&&(if n.kind=2 then P.nameOk n.value else decide (n.value.size=0)))
theorem Dz(len:Nat)(n:P.Nd):P.nodeOk len n=(!Pr len n&&!We n):=by
 unfold P.nodeOk Pr We;simp only[Bool.not_not,Bool.and_assoc]
theorem Fn{ns:List P.Nd}{k:Nat}{n:P.Nd}(hn:ns[k]?=some n)(h:P.nodeOk ns.length n=false):P.treeOk ns=false:=by
 cases e:P.treeOk ns with
 |false=>rfl
 |true =>
  simp only[P.treeOk,Bool.and_eq_true,List.all_eq_true]at e;rw[e.2 n (List.mem_of_getElem? hn)]at h;cases h
theorem Vm{ns:List P.Nd}{k:Nat}{n:P.Nd}(h:∀j m,j<k->ns[j]?=some m->P.nodeOk ns.length m=true)(hn:ns[k]?=some n)(ho:P.nodeOk ns.length n=true) :
  ∀j m,j<k+1->ns[j]?=some m->P.nodeOk ns.length m=true:=by
 intro j m hj hm;by_cases e:j=k
 .subst e
  rw[hn]at hm;cases hm
  exact ho
 exact h j m (by omega) hm
theorem Ho(ns:List P.Nd):P.treeOk ns=(decide (ns.length<=400)&&xC ns&&ns.all (P.nodeOk ns.length)):=rfl
theorem Zr(ns:List P.Nd)(g cn:Nat)(w:World)(hN:Nodes0 w g ns)(hlen:ns.length<=400) :
  Calls prog 172 #[.agg #[sP g 0 ns.length cn]] w λe w'=>∃v,e=.returned (.tuple #[v,.bool (xC ns)])/\bW w w':=by
 refine(Vs ns g cn w hN hlen).mono ?_;rintro e w' ⟨hb,h⟩;unfold xC
 cases hk:P.kidsOf ns with
 |none =>
  rw[hk]at h;obtain⟨v,rfl⟩:=h;exact⟨v,rfl,hb⟩
 |some p =>
  obtain⟨out,st⟩:=p;rw[hk]at h;obtain⟨go,co,rfl,_,_⟩:=h
  match st with
  |[]=>exact⟨_,rfl,hb⟩
  |[_]=>exact⟨_,rfl,hb⟩
  |_::_::r=>exact⟨sP go 0 ns.length co,by simp,hb⟩
def Ro(b b0 κ:Nat)(kids:Int)(g len cn:Nat)(w:World):Prop :=
 w.cell? (E b 0)=some (X (κ:Int))/\w.cell? (E b 3)=some (X kids)/\w.cell? (E b0 0)=some (sP g 0 len cn)
theorem Lg{b b0 κ:Nat}{kids:Int}{g len cn:Nat}{w:World}{o:Obj}(h:Ro b b0 κ kids g len cn w.drew):Ro b b0 κ kids g len cn (w.alloc o).drew:=by
 obtain⟨h1,h2,h3⟩:=h;have key:∀(x j:Nat)(v:Value),w.drew.cell? (E x j)=some v->(w.alloc o).drew.cell? (E x j)=some v:=by
  intro x j v hv;have hv':w.cell? (E x j)=some v:=by simpa using hv
  have:=(((Below.refl w.heap.size w).alloc nL o).cell (p:=(E x j)) (block_lt_of_cell hv')).trans hv';simpa using this
 exact⟨key _ _ _ h1,key _ _ _ h2,key _ _ _ h3⟩
theorem CZ(W:World)(κ:Nat)(h:κ<=5):((W.alloc (.cells #[X 0,X 0,X 0,X 1,X 2,X 2] 3)).drew).cell? (E W.heap.size (κ))=some (X (P.arity (κ:Int))):=by
 match κ,h with
 |0,_=>simp[P.arity]
 |1,_=>simp[P.arity]
 |2,_=>simp[P.arity]
 |3,_=>simp[P.arity]
 |4,_=>simp[P.arity]
 |5,_=>simp[P.arity]
theorem Zn(ns:List P.Nd)(g cn:Nat)(w:World)(hN:Nodes0 w g ns)(hsm:gO ns) :
  Calls prog 171 #[.agg #[sP g 0 ns.length cn]] w (Rt (.bool (P.treeOk ns)) w):=by
 have HN:=iH hN;have HS:=iH hsm;have hlm:=hsm.1;clear hN hsm;by_cases hlen:400<ns.length
 .have HE:Hid (P.treeOk ns=false):=by
   show _=_
   rw[Ho,decide_eq_false (by omega)];rfl
  go_enter func171,ntmps171
  go_wp2
  go_ret;exact⟨by rw[HE.out];rfl,(Below.refl _ _).alloc nL _⟩
 have hlen':ns.length<=400:=by omega
 cases hk:xC ns with
 | false =>
  have HE:Hid (P.treeOk ns=false):=by
   show _=_
   rw[Ho,hk];simp
  have HK:=iH hk;clear hk;go_enter func171,ntmps171;go_wp2_with fail;refine(Zr ns g cn _ (HN.out.grown (by go_grown)) hlen').mono ?_;rintro e w1⟨v,rfl,hb⟩;rw[HK.out]
  go_wp2
  go_ret;exact⟨by rw[HE.out];rfl,((Below.refl _ w).alloc nL _).trans (hb.mono (by simp))⟩
 | true =>
  have HK:=iH hk;clear hk;go_enter func171,ntmps171;go_wp2_with fail;refine(Zr ns g cn _ (HN.out.grown (by go_grown)) hlen').mono ?_;rintro e w1⟨v,rfl,hb⟩;rw[HK.out];have hB1:bW w w1:=((Below.refl _ w).alloc nL _).trans (hb.mono (by simp));have hc1:w1.cell? (E w.heap.size 0)=some (sP g 0 ns.length cn):=(hb.cell (p:=(E w.heap.size 0)) (by simp)).trans (by simp);have hz1:w.heap.size<w1.heap.size:=by have:=hb.size;simp at this;omega
  have HN1:Hid (Nodes0 w1 g ns):=HN.out.grown hB1;clear hb
  go_wp2
  go_loopw [5] (λi wr=>∃(k:Nat),k<=ns.length/\i=X k/\Hid (∀j n,j<k->ns[j]?=some n->P.nodeOk ns.length n=true)/\bW w1 wr) (λi _=>ns.length-(intOf i).toNat)
  case atStart=>exact⟨0,zL,rfl,λj n h=>by omega,Below.refl _ _⟩
  obtain⟨k,hk,rfl,hall,hbel⟩:=hrel;have cx:wr.cell? (E w.heap.size 0)=some (sP g 0 ns.length cn):=(hbel.cell (p:=(E w.heap.size 0)) hz1).trans hc1;by_cases hlt:k<ns.length
  .obtain⟨n,hn⟩:=gXe hlt
   obtain⟨r0,r1,r2,r3⟩:=(HN1.out.grown hbel).2 k n hn;have HKn:=iH hn;have hsz:=HS.out.2 n (List.mem_of_getElem? hn);obtain⟨hs1,hs2⟩:=hsz;have hbs:=hbel.size;clear hn;go_upto_region 10 with fail;generalize hW:wr.alloc (.cells #[X n.kind,Y n.name,Y n.value,X n.kids] 210)=W;have hz:W.heap.size=wr.heap.size+1:=by rw[<-hW];simp
   have q0:W.cell? (E wr.heap.size 0)=some (X n.kind):=by rw[<-hW];simp
   have q1:W.cell? (E wr.heap.size 1)=some (Y n.name):=by rw[<-hW];simp
   have q2:W.cell? (E wr.heap.size 2)=some (Y n.value):=by rw[<-hW];simp
   have q3:W.cell? (E wr.heap.size 3)=some (X n.kids):=by rw[<-hW];simp
   have hbW:bW w1 W:=by rw[<-hW];exact hbel.alloc hbs _
   have cW:W.cell? (E w.heap.size 0)=some (sP g 0 ns.length cn):=(hbW.cell (p:=(E w.heap.size 0)) hz1).trans hc1;clear hW r0 r1 r2 r3 cx
   go_cut [55] (λc wx=>c=.bool (Pr ns.length n)/\bW W wx)
   case first =>
    by_cases ho:n.kind<0\/5<n.kind
    .have cI:∀d os,Calls prog 45 #[X n.kind,X 0,X 5] (Sort.grow (redrawn W d) os) λe w''=>e=.returned (.bool false)/\∃p:Regrown,w''=Sort.grow (redrawn W p.d) p.os:=λd os=>by
      refine(Fe _ _ _ _).mono ?_;rintro e w' ⟨rfl,rfl⟩;exact⟨by rw[inB,decide_eq_false (by omega)],⟨d,os⟩,rfl⟩
     have l0:=cell_regrown q0;have HB:Hid (Pr ns.length n=true):=by
      show _=_
      unfold Pr;rw[decide_eq_false (by omega)];rfl
     refine wp_region_quiet_below (by kernel_rfl) (by kernel_rfl) ?_
     repeat(go_big_quiet_step (exact cI _ _))
     refine wpQuiet_nil ?_;intro w5 hw';obtain⟨⟨dq,osq⟩,hw''⟩:=hw';have hB:=below_regrown W dq osq;simp only[]at hw'';rw[<-hw'']at hB;clear hw'' cI l0
     go_wp2
     go_meet;exact⟨by rw[HB.out],hB⟩
    obtain⟨κ,hκ⟩:=Int.eq_ofNat_of_zero_le (show 0<=n.kind by omega);have hκ5:κ<=5:=by omega
    have hin:inB (κ:Int) 0 5=true:=by unfold inB;simp;omega
    rw[hκ]at q0;have hrow:=CZ W κ hκ5;rw[hz]at hrow;have i0:(0:Int)<=(κ:Int):=by omega
    have i1:(κ:Int)<6:=by omega
    have HKK:=iH hκ;have hBr:bW W ((W.alloc (.cells #[X 0,X 0,X 0,X 1,X 2,X 2] 3)).drew):=below_drewN ((Below.refl W.heap.size W).alloc nL _) 1;have HBR:=iH hBr;clear hκ ho hBr;generalize hA:P.arity (κ:Int)=A at hrow;have HA:=iH hA;clear hA;by_cases hkk:n.kids=A
    .rw[hkk]at q3
     by_cases hκ0:κ=0
     .have e0:((κ:Int)==0)=true:=by rw[beq_iff_eq];omega
      by_cases hl1:1<ns.length
      .have HB:Hid (Pr ns.length n=true):=by show _=_;simp[Pr,HKK.out,hκ0,hl1]
       have l1:(1:Int)<(ns.length:Int):=by omega
       clear hκ0 hkk hl1;refine wp_region_held_drew (S:=Ro wr.heap.size w.heap.size κ A g ns.length cn) (by kernel_rfl) ⟨by simpa using q0,by simpa using q3,by simpa using cW⟩ (λhS=>?_);refine x1 0 31 (pP wr.heap.size 0) ?_;refine x1 1 32 (X (κ:Int)) ?_;refine rd1 2 ⟨some 33,_,_,_,_,none⟩ rfl (λK hK=>?_);go_simp;refine(Fe _ _ _ _).mono ?_;rintro e w' ⟨rfl,rfl⟩;rw[hin];refine hK.out _ _ hS (λhS=>?_);clear hK K;refine x1 3 34 (.bool false) ?_;refine x1 4 35 (.bool false) ?_;refine x1 5 36 (pP wr.heap.size 3) ?_;refine x1 6 37 (X A) ?_;refine x1 8 39 (pP wr.heap.size 0) ?_;refine x1 9 40 (X (κ:Int)) ?_;refine rd1 7 ⟨some 38,_,_,_,_,some (4,false)⟩ rfl (λK hK=>?_);go_simp;refine hK.out _ _ (Lg hS) (λhS=>?_);clear hK K;refine x1 10 41 (pP (wr.heap.size+1) (κ)) ?_;refine rd1 11 ⟨some 42,_,_,_,_,some (4,false)⟩ rfl (λK hK=>?_);go_simp;refine hK.out _ _ hS (λhS=>?_);clear hK K;refine x1 12 43 (.bool false) ?_;refine x1 13 44 (.bool false) ?_;refine x1 14 45 (.bool false) ?_;refine x1 15 46 (pP wr.heap.size 0) ?_;refine x1 16 47 (X (κ:Int)) ?_;refine x1 17 48 (.bool true) ?_;refine x1 18 49 (.bool true) ?_;refine x1 19 50 (pP w.heap.size 0) ?_;refine x1 20 51 (sP g 0 ns.length cn) ?_;refine x1 21 52 (X (ns.length:Int)) ?_;refine x1 22 53 (.bool true) ?_;refine x1 23 54 (.bool true) ?_;refine x1 24 55 (.bool true) ?_;refine td ?_
       go_wp2
       go_meet;exact⟨by rw[HB.out],HBR⟩
      have HB:Hid (Pr ns.length n=false):=by show _=_;simp[Pr,HKK.out,hkk,<-HA.out,hl1];omega
      have l1:¬(1:Int)<(ns.length:Int):=by omega
      clear hκ0 hkk hl1;refine wp_region_held_drew (S:=Ro wr.heap.size w.heap.size κ A g ns.length cn) (by kernel_rfl) ⟨by simpa using q0,by simpa using q3,by simpa using cW⟩ (λhS=>?_);refine x1 0 31 (pP wr.heap.size 0) ?_;refine x1 1 32 (X (κ:Int)) ?_;refine rd1 2 ⟨some 33,_,_,_,_,none⟩ rfl (λK hK=>?_);go_simp;refine(Fe _ _ _ _).mono ?_;rintro e w' ⟨rfl,rfl⟩;rw[hin];refine hK.out _ _ hS (λhS=>?_);clear hK K;refine x1 3 34 (.bool false) ?_;refine x1 4 35 (.bool false) ?_;refine x1 5 36 (pP wr.heap.size 3) ?_;refine x1 6 37 (X A) ?_;refine x1 8 39 (pP wr.heap.size 0) ?_;refine x1 9 40 (X (κ:Int)) ?_;refine rd1 7 ⟨some 38,_,_,_,_,some (4,false)⟩ rfl (λK hK=>?_);go_simp;refine hK.out _ _ (Lg hS) (λhS=>?_);clear hK K;refine x1 10 41 (pP (wr.heap.size+1) (κ)) ?_;refine rd1 11 ⟨some 42,_,_,_,_,some (4,false)⟩ rfl (λK hK=>?_);go_simp;refine hK.out _ _ hS (λhS=>?_);clear hK K;refine x1 12 43 (.bool false) ?_;refine x1 13 44 (.bool false) ?_;refine x1 14 45 (.bool false) ?_;refine x1 15 46 (pP wr.heap.size 0) ?_;refine x1 16 47 (X (κ:Int)) ?_;refine x1 17 48 (.bool true) ?_;refine x1 18 49 (.bool true) ?_;refine x1 19 50 (pP w.heap.size 0) ?_;refine x1 20 51 (sP g 0 ns.length cn) ?_;refine x1 21 52 (X (ns.length:Int)) ?_;refine x1 22 53 (.bool false) ?_;refine x1 23 54 (.bool false) ?_;refine x1 24 55 (.bool false) ?_;refine td ?_
      go_wp2
      go_meet;exact⟨by rw[HB.out],HBR⟩
     have HB:Hid (Pr ns.length n=false):=by show _=_;simp[Pr,HKK.out,hkk,<-HA.out];omega
     have e0:((κ:Int)==0)=false:=by rw[beq_eq_false_iff_ne];omega
     clear hκ0 hkk;refine wp_region_held_drew (S:=Ro wr.heap.size w.heap.size κ A g ns.length cn) (by kernel_rfl) ⟨by simpa using q0,by simpa using q3,by simpa using cW⟩ (λhS=>?_);refine x1 0 31 (pP wr.heap.size 0) ?_;refine x1 1 32 (X (κ:Int)) ?_;refine rd1 2 ⟨some 33,_,_,_,_,none⟩ rfl (λK hK=>?_);go_simp;refine(Fe _ _ _ _).mono ?_;rintro e w' ⟨rfl,rfl⟩;rw[hin];refine hK.out _ _ hS (λhS=>?_);clear hK K;refine x1 3 34 (.bool false) ?_;refine x1 4 35 (.bool false) ?_;refine x1 5 36 (pP wr.heap.size 3) ?_;refine x1 6 37 (X A) ?_;refine x1 8 39 (pP wr.heap.size 0) ?_;refine x1 9 40 (X (κ:Int)) ?_;refine rd1 7 ⟨some 38,_,_,_,_,some (4,false)⟩ rfl (λK hK=>?_);go_simp;refine hK.out _ _ (Lg hS) (λhS=>?_);clear hK K;refine x1 10 41 (pP (wr.heap.size+1) (κ)) ?_;refine rd1 11 ⟨some 42,_,_,_,_,some (4,false)⟩ rfl (λK hK=>?_);go_simp;refine hK.out _ _ hS (λhS=>?_);clear hK K;refine x1 12 43 (.bool false) ?_;refine x1 13 44 (.bool false) ?_;refine x1 14 45 (.bool false) ?_;refine x1 15 46 (pP wr.heap.size 0) ?_;refine x1 16 47 (X (κ:Int)) ?_;refine x1 17 48 (.bool false) ?_;refine x1 18 49 (.bool false) ?_;refine ts 19 50 ?_;refine ts 20 51 ?_;refine ts 21 52 ?_;refine ts 22 53 ?_;refine x1 23 54 (.bool false) ?_;refine x1 24 55 (.bool false) ?_;refine td ?_
     go_wp2
     go_meet;exact⟨by rw[HB.out],HBR⟩
    have HB:Hid (Pr ns.length n=true):=by show _=_;simp[Pr,HKK.out,HA.out,hkk]
    have e1:(n.kids==A)=false:=by rw[beq_eq_false_iff_ne];exact hkk
    refine wp_region_held_drew (S:=Ro wr.heap.size w.heap.size κ n.kids g ns.length cn) (by kernel_rfl) ⟨by simpa using q0,by simpa using q3,by simpa using cW⟩ (λhS=>?_);refine x1 0 31 (pP wr.heap.size 0) ?_;refine x1 1 32 (X (κ:Int)) ?_;refine rd1 2 ⟨some 33,_,_,_,_,none⟩ rfl (λK hK=>?_);go_simp;refine(Fe _ _ _ _).mono ?_;rintro e w' ⟨rfl,rfl⟩;rw[hin];refine hK.out _ _ hS (λhS=>?_);clear hK K;refine x1 3 34 (.bool false) ?_;refine x1 4 35 (.bool false) ?_;refine x1 5 36 (pP wr.heap.size 3) ?_;refine x1 6 37 (X n.kids) ?_;refine x1 8 39 (pP wr.heap.size 0) ?_;refine x1 9 40 (X (κ:Int)) ?_;refine rd1 7 ⟨some 38,_,_,_,_,some (4,false)⟩ rfl (λK hK=>?_);go_simp;refine hK.out _ _ (Lg hS) (λhS=>?_);clear hK K;refine x1 10 41 (pP (wr.heap.size+1) (κ)) ?_;refine rd1 11 ⟨some 42,_,_,_,_,some (4,false)⟩ rfl (λK hK=>?_);go_simp;refine hK.out _ _ hS (λhS=>?_);clear hK K;refine x1 12 43 (.bool true) ?_;refine x1 13 44 (.bool true) ?_;refine x1 14 45 (.bool true) ?_;refine ts 15 46 ?_;refine ts 16 47 ?_;refine ts 17 48 ?_;refine ts 18 49 ?_;refine ts 19 50 ?_;refine ts 20 51 ?_;refine ts 21 52 ?_;refine ts 22 53 ?_;refine ts 23 54 ?_;refine x1 24 55 (.bool true) ?_;refine td ?_
    go_wp2
    go_meet;exact⟨by rw[HB.out],HBR⟩
   obtain⟨rfl,hbc⟩:=hcut;have p0:wc.cell? (E wr.heap.size 0)=some (X n.kind):=(hbc.cell (p:=(E wr.heap.size 0)) (by show wr.heap.size<W.heap.size;omega)).trans q0;have p1:wc.cell? (E wr.heap.size 1)=some (Y n.name):=(hbc.cell (p:=(E wr.heap.size 1)) (by show wr.heap.size<W.heap.size;omega)).trans q1;have p2:wc.cell? (E wr.heap.size 2)=some (Y n.value):=(hbc.cell (p:=(E wr.heap.size 2)) (by show wr.heap.size<W.heap.size;omega)).trans q2;have HW:=iH (hbW.trans (hbc.mono (by omega)));have HG:=iH (hB1.trans (HW.out.mono (by omega)));have hn1:n.name.size<=maxLen:=by unfold maxLen;omega
   have hn2:n.value.size<=maxLen:=by unfold maxLen;omega
   clear q0 q1 q2 q3 cW hbW hbc hs1 hs2
   cases hb1:Pr ns.length n with
   |true =>
    have HE:Hid (P.treeOk ns=false):=Fn HKn (by rw[Dz,hb1];rfl);clear hb1
    go_wp2
    go_ret;exact⟨by rw[HE.out];rfl,HG⟩
   | false =>
    rcases(show n.kind=1\/n.kind=2\/(¬n.kind=1/\¬n.kind=2) by omega)with hk1|hk2|⟨hk1,hk2⟩
    .rw[hk1]at p0
     cases hm:P.nameOk n.name with
     |false =>
      have HM:=iH hm;have HE:Hid (P.treeOk ns=false):=Fn HKn (by rw[Dz,hb1];simp[We,hk1,hm]);clear hb1;clear hk1 hm;go_wp2_with fail;refine(Bj _ _ (by assumption)).mono ?_;rintro e w' ⟨rfl,rfl⟩;rw[HM.out]
      go_wp2
      go_ret;exact⟨by rw[HE.out];rfl,HG⟩
     | true =>
      by_cases hv:n.value.size=0
      .have HM:=iH hm
       have b3:=Jc hv;have HO:Hid (P.nodeOk ns.length n=true):=by show _=_;rw[Dz,hb1];simp[We,hk1,hm,hv]
       clear hb1;clear hk1 hm;go_wp2_with fail;refine(Bj _ _ (by assumption)).mono ?_;rintro e w' ⟨rfl,rfl⟩;rw[HM.out]
       go_wp2
       go_roundw
       case rel=>exact⟨k+1,by omega,by go_num,Vm hall.out HKn HO,HW⟩
       simp[intOf];omega
      have HM:=iH hm;have b3:=Hy hv;have b4:=Gt hv;have HE:Hid (P.treeOk ns=false):=Fn HKn (by rw[Dz,hb1];simp[We,hk1,hm,hv]);clear hb1;clear hk1 hm;go_wp2_with fail;refine(Bj _ _ (by assumption)).mono ?_;rintro e w' ⟨rfl,rfl⟩;rw[HM.out]
      go_wp2
      go_ret;exact⟨by rw[HE.out];rfl,HG⟩
    .rw[hk2]at p0
     cases hm:P.nameOk n.name with
     |false =>
      have HM:=iH hm;have HE:Hid (P.treeOk ns=false):=Fn HKn (by rw[Dz,hb1];simp[We,hk2,hm]);clear hb1;clear hk2 hm;go_wp2_with fail;refine(Bj _ _ (by assumption)).mono ?_;rintro e w' ⟨rfl,rfl⟩;rw[HM.out]
      go_wp2
      go_ret;exact⟨by rw[HE.out];rfl,HG⟩
     | true =>
      cases hv:P.nameOk n.value with
      |false =>
       have HM:=iH hm;have HV:=iH hv;have HE:Hid (P.treeOk ns=false):=Fn HKn (by rw[Dz,hb1];simp[We,hk2,hm,hv]);clear hb1;clear hk2 hm hv;go_wp2_with fail;refine(Bj _ _ (by assumption)).mono ?_;rintro e w' ⟨rfl,rfl⟩;rw[HM.out];go_wp2_with fail;refine(Bj _ _ (by assumption)).mono ?_;rintro e w' ⟨rfl,rfl⟩;rw[HV.out]
       go_wp2
       go_ret;exact⟨by rw[HE.out];rfl,HG⟩
      |true =>
       have HM:=iH hm;have HV:=iH hv;have HO:Hid (P.nodeOk ns.length n=true):=by show _=_;rw[Dz,hb1];simp[We,hk2,hm,hv]
       clear hb1;clear hk2 hm hv;go_wp2_with fail;refine(Bj _ _ (by assumption)).mono ?_;rintro e w' ⟨rfl,rfl⟩;rw[HM.out];go_wp2_with fail;refine(Bj _ _ (by assumption)).mono ?_;rintro e w' ⟨rfl,rfl⟩;rw[HV.out]
       go_wp2
       go_roundw
       case rel=>exact⟨k+1,by omega,by go_num,Vm hall.out HKn HO,HW⟩
       simp[intOf];omega
    by_cases hm:n.name.size=0
    .by_cases hv:n.value.size=0
     .have b1:=Jc hm
      have b3:=Jc hv;have HO:Hid (P.nodeOk ns.length n=true):=by show _=_;rw[Dz,hb1];simp[We,hk1,hk2,hm,hv]
      clear hb1
      go_wp2
      go_roundw
      case rel=>exact⟨k+1,by omega,by go_num,Vm hall.out HKn HO,HW⟩
      simp[intOf];omega
     have b1:=Jc hm;have b3:=Hy hv;have b4:=Gt hv;have HE:Hid (P.treeOk ns=false):=Fn HKn (by rw[Dz,hb1];simp[We,hk1,hk2,hm,hv]);clear hb1
     go_wp2
     go_ret;exact⟨by rw[HE.out];rfl,HG⟩
    have b1:=Hy hm;have b2:=Gt hm;have HE:Hid (P.treeOk ns=false):=Fn HKn (by rw[Dz,hb1];simp[We,hk1,hk2,hm]);clear hb1
    go_wp2
    go_ret;exact⟨by rw[HE.out];rfl,HG⟩
  have HE:Hid (P.treeOk ns=true):=by
   show _=_
   rw[Ho,HK.out,decide_eq_true hlen',Bool.true_and,Bool.true_and,List.all_eq_true];intro n hn;obtain⟨j,hj⟩:=List.getElem?_of_mem hn;exact hall.out j n (by have:=P.getElem?_lt hj;omega) hj
  go_wp2
  go_ret;exact⟨by rw[HE.out];rfl,hB1.trans (hbel.mono (by have:=hB1.size;omega))⟩
def Ie(ns:List P.Nd):Bool:=P.treeOk ns&&(P.treeI ns).isSome
theorem Vo{ns:List P.Nd}(h:P.treeOk ns=true):ns.length<=400:=by
 rw[Ho]at h;simp only[Bool.and_eq_true,decide_eq_true_eq]at h;exact h.1.1
theorem Rh(ns:List P.Nd)(g cn:Nat)(w:World)(hN:Nodes0 w g ns)(hsm:gO ns) :
  Calls prog 150 #[.agg #[sP g 0 ns.length cn]] w (Rt (.bool (Ie ns)) w):=by
 have HN:=iH hN;have HS:=iH hsm;clear hN hsm
 cases ht:P.treeOk ns with
 |false =>
  have HT:=iH ht;have HV:Hid (Ie ns=false):=by show _=_;rw[Ie,ht];rfl
  clear ht;go_enter func150,ntmps150;go_wp2_with fail;refine(Zn ns g cn _ (HN.out.grown (by go_grown)) HS).mono ?_;rintro e w1⟨rfl,hb⟩;rw[HT.out]
  go_wp2
  go_ret;exact⟨by rw[HV.out];rfl,((Below.refl _ w).alloc nL _).trans (hb.mono (by simp))⟩
 | true =>
  obtain⟨out,r,t,hko,hol,hrl,hIs,hlo,hhi,_,hct⟩:=P.same_tree2 ht;have hlen:=Vo ht;have HT:=iH ht;have HKO:=iH hko;have cc:=λgo co=>uN ns out ns.length co go hol t r hIs (by omega)
  rw[show((r:Nat):Int)=(ns.length:Int)-1 by omega]at cc;have HC:Hid (∀(go co:Nat)(w:World),KidsIn w go out->Calls prog 173 #[sP go 0 ns.length co,X ((ns.length:Int)-1)] w λe w'=>e=.returned (X (P.tall t:Int))/\w'=w):=cc;have hl1:1<=ns.length:=by omega
  have HV:Hid (Ie ns=decide (P.tall t<=20)):=by
   show _=_
   rw[Ie,ht];by_cases h:P.tall t<=20
   .rw[hlo h,decide_eq_true h];rfl
   rw[hhi (by omega),decide_eq_false h];rfl
  have htl:P.tall t<=400:=lT (P.tall_le_count t) (by omega);clear ht hko cc hIs hlo hhi hct hrl hol;generalize hT:P.tall t=T at *;clear hT;go_enter func150,ntmps150;go_wp2_with fail;refine(Zn ns g cn _ (HN.out.grown (by go_grown)) HS).mono ?_;rintro e w1⟨rfl,hb⟩;rw[HT.out];have hB1:bW w w1:=((Below.refl _ w).alloc nL _).trans (hb.mono (by simp));have hc1:w1.cell? (E w.heap.size 0)=some (sP g 0 ns.length cn):=(hb.cell (p:=(E w.heap.size 0)) (by simp)).trans (by simp);have hz1:w.heap.size<w1.heap.size:=by have:=hb.size;simp at this;omega
  clear hb;go_wp2_with fail;refine(Vs ns g cn _ (HN.out.grown hB1) hlen).mono ?_;rintro e w2⟨hb2,h2⟩;rw[HKO.out]at h2;obtain⟨go,co,rfl,hkin,_⟩:=h2;have hc2:w2.cell? (E w.heap.size 0)=some (sP g 0 ns.length cn):=(hb2.cell (p:=(E w.heap.size 0)) hz1).trans hc1;have HB:=iH (hB1.trans (hb2.mono (by omega)));have HK:=iH hkin;clear hb2 hkin hc1;go_wp2_with fail;refine(HC _ _ _ HK).mono ?_;rintro e w3⟨rfl,rfl⟩;by_cases h20:T<=20
  .go_wp2
   go_ret;exact⟨by rw[HV.out,decide_eq_true h20];simp;omega,HB⟩
  go_wp2
  go_ret;exact⟨by rw[HV.out,decide_eq_false h20];simp;omega,HB⟩
theorem Vc{y:P.Tr}(hw:P.wf y)(h:nOk y)(hc:P.count y<=400):Ie (post y)=decide (P.tall y<=20):=by
 unfold Ie;rw[Oi hw h];by_cases h20:P.tall y<=20
 .rw[if_pos h20,decide_eq_true h20]
  cases ht:P.treeOk (post y)with
  |true=>rfl
  |false =>
   have:=P.no_tree (by rw[Qj y hw];exact hc) ht;rw[Oi hw h,if_pos h20]at this;cases this
 rw[if_neg h20,decide_eq_false h20];simp
theorem kM{w:World}{g:Nat}{ns:List P.Nd}(hg:g<w.heap.size)(h:w.rangeAt g 0 (Cp ns)):Nodes0 w g ns:=by
 refine⟨hg,λj n hj=>?_⟩;have key:∀(ns:List P.Nd)(j:Nat)(n:P.Nd),ns[j]?=some n->∀c,c<4->(Cp ns)[j*4+c]?=(ndv n)[c]?:=by
  intro ns
  induction ns with
  |nil=>intro j n hj;simp at hj
  | cons m r ih =>
   intro j n hj c hc;have e:Cp (m::r)=ndv m++Cp r:=rfl
   cases j with
   |zero =>
    simp at hj;subst hj;rw[e,List.getElem?_append_left (by simp[ndv];omega)];simp
   |succ j =>
    simp at hj;rw[e,List.getElem?_append_right (by simp[ndv];omega),<-ih j n hj c hc]
    congr 1
    simp[ndv];omega
 have k0:=h (j*4) _ (by have:=key ns j n hj 0 (by omega);simpa[ndv]using this);have k1:=h (j*4+1) _ (by have:=key ns j n hj 1 (by omega);simpa[ndv]using this);have k2:=h (j*4+2) _ (by have:=key ns j n hj 2 (by omega);simpa[ndv]using this);have k3:=h (j*4+3) _ (by have:=key ns j n hj 3 (by omega);simpa[ndv]using this);simp only[Nat.zero_add]at k0 k1 k2 k3;exact⟨k0,k1,k2,k3⟩
theorem rM{t:BA}(ht:t.size<=200)(h:(Ad t 0).all Fi=false):Ap t=2:=by
 unfold Ap;rw[if_neg (by omega),if_neg (λe=>by rw[e]at h;cases h)]
 cases hr:P.rd 1000 2 P.nonT (Ad t 0)with
 |none=>rfl
 | some p =>
  obtain⟨y,r⟩:=p
  cases r with
  |nil =>
   obtain⟨_,pre,e1,e2⟩:=Gw 1000 2 _ _ _ _ (λh=>by omega) hr;rw[List.append_nil]at e1;rw[e1,e2]at h;cases h
  |cons a b=>rfl
theorem lN:∀(l:List UInt8),∀x∈P.toks l,x.length<=l.length
 |[],x,h=>by cases h
 | c::r,x,h=>by
  have ih:=lN r;rw[P.toks_cons]at h
  split at h
  .have:=ih x h;simp;omega
  split at h
  .cases r with
   |nil=>simp[P.onto,P.toks]at h;subst h;simp
   | cons d r' =>
    cases hT:P.toks (d::r')with
    |nil=>rw[hT]at h;simp[P.onto]at h;subst h;simp
    | cons a b =>
     rw[hT]at h ih;have ha:=ih a (by simp);by_cases hd:P.letter d=true
     .simp[P.onto,hd]at h
      rcases h with rfl|h
      .simp at ha⊢;omega
      have:=ih x (by simp[h]);simp at this⊢;omega
     simp[P.onto,hd]at h;rcases h with rfl|rfl|h
     .simp
     .simp at ha⊢;omega
     have:=ih x (by simp[h]);simp at this⊢;omega
  rcases List.mem_cons.1 h with rfl|h
  .simp
  have:=ih x h;simp;omega
def Bo(t:BA):List P.Nd:=if Ap t=0 then post (Dl t)else []
theorem Ea{t:BA}{c:Nat}(h:Ap t=c)(hc:c≠0):Bo t=[]:=by
 unfold Bo;rw[if_neg (by rw[h];exact hc)]
theorem Iu{t:BA}{y:P.Tr}(h:Ap t=0)(hy:Dl t=y):Bo t=post y:=by
 unfold Bo;rw[if_pos h,hy]
def BV(w:World)(B:Nat)(a:OA)(ns:List P.Nd):Prop:=(ns=[]/\a=none)\/∃g,a=(O g 0)/\B<=g/\Nodes0 w g ns
def yZ(t:BA)(w:World)(e:Ending)(w':World):Prop:=∃a c,e=.returned (.tuple #[.agg #[.slice a (Bo t).length c],X (Ap t:Nat)])/\BV w' w.heap.size a (Bo t)/\bW w w'
theorem Zl(t:BA)(w:World)(hm:t.size<=maxLen) :
  Calls prog 118 #[Y t] w λe w'=>yZ t w e w':=by
 unfold maxLen at hm;by_cases hbig:(200:Int)<t.size
 .have HC:Hid (Ap t=1):=by show _=_;unfold Ap;rw[if_pos (by omega)]
  go_enter func118,ntmps118;go_wp2_with fail;refine bodyPost_ret (v:=.tuple #[.agg #[.slice none 0 0],X 1]) (by rw[results_cell_tmp rfl];simp[go_sem]) rfl ⟨none,0,by rw[HC.out,Ea HC.out (by omega)];rfl,.inl ⟨Ea HC (by omega),rfl⟩,by go_grown⟩
 have ht:t.size<=200:=by omega
 go_enter func118,ntmps118;go_wp2_with fail;refine(iF t _ ht).mono ?_;rintro e w1⟨v,rfl,h1,h2⟩;have kr:w1.cell? (E w.heap.size 0)=some (.slice none 0 0):=(h2.cell (p:=(E w.heap.size 0)) (by simp)).trans (by simp);have fr:w1.frozen? (E w.heap.size 0)=false:=(h2.frozen (p:=(E w.heap.size 0)) (by simp)).trans (by simp);have HB1:Hid (bW w w1):=(show bW w _ by go_grown).trans (h2.mono (by simp));have hs1:w.heap.size<w1.heap.size:=by have:=h2.size;simp at this;omega
 cases hok:(Ad t 0).all Fi with
 |false =>
  have HC:Hid (Ap t=2):=rM ht hok;clear hok h1 h2;go_wp2_with fail;refine bodyPost_ret (v:=.tuple #[.agg #[.slice none 0 0],X 2]) (by rw[results_cell_tmp rfl];simp[go_sem,kr]) rfl ⟨none,0,by rw[HC.out,Ea HC.out (by omega)];rfl,.inl ⟨Ea HC (by omega),rfl⟩,HB1.out.setCell nL _⟩
 | true =>
  obtain⟨g,c,rfl,hrow⟩:=h1 hok;have hwb:w.heap.size+1<=g:=by have:=(hrow.lt g rfl).1;simpa using this
  have hgl:g<w1.heap.size:=(hrow.lt g rfl).2;have HROW:Hid (∀j l,(Ad t 0)[j]?=some l->w1.cell? (E g j)=some (Y (P.bts l))):=λj l hj=>by
   have hlt:=Af hj;rw[hrow.cellAt j (by omega)];simp[Tf,hj]
  clear h1 h2 hrow hok;have hl200:=Hx (i:=0) ht;have HZ:Hid (∀l∈Ad t 0,l.length<=200):=λl hl=>by
   have:=lN _ l hl;have h3:(t.data.toList.drop 0).length=t.size:=by simp
   omega
  have HC0:Hid (Ap t=if Ad t 0=[]then 0 else match P.rd 1000 2 P.nonT (Ad t 0)with
   |some (y,[])=>if 20<P.tall y then 3 else 0
   |_=>2):=by show _=_;unfold Ap;rw[if_neg (by omega)];rfl
  have HT0:Hid (Dl t=if Ad t 0=[]then P.nonT else match P.rd 1000 2 P.nonT (Ad t 0)with
   |some (y,_)=>y
   |none=>P.nonT):=rfl
  generalize Ad t 0=L at *;by_cases hL:L=[]
  .subst hL
   have HC:Hid (Ap t=0):=by rw[HC0.out,if_pos rfl];rfl
   have HN:Hid (Bo t=[⟨0,⟨#[]⟩,⟨#[]⟩,0⟩]):=(Iu HC (by rw[HT0.out,if_pos rfl])).trans rfl;clear HT0;go_wp2_with fail;refine bodyPost_ret (v:=.tuple #[.agg #[sP w1.heap.size 0 1 1],X 0]) (by rw[results_cell_tmp rfl];simp[go_sem,kr,hs1]) rfl ⟨(O w1.heap.size 0),1,(by rw[HC.out,HN.out];rfl),.inr ⟨w1.heap.size,rfl,by omega,?_⟩,(by have:=HB1.out;go_grown)⟩;rw[HN.out];refine⟨by simp,λj n hj=>?_⟩
   cases j with
   |zero=>cases hj;exact⟨by rw[World.cell?_alloc_at _ _ _ _ (by simp[World.setCell])];rfl,by rw[World.cell?_alloc_at _ _ _ _ (by simp[World.setCell])];rfl,by rw[World.cell?_alloc_at _ _ _ _ (by simp[World.setCell])];rfl,by rw[World.cell?_alloc_at _ _ _ _ (by simp[World.setCell])];rfl⟩
   |succ j=>simp at hj
  have HC1:Hid (Ap t=match P.rd 1000 2 P.nonT L with
   |some (y,[])=>if 20<P.tall y then 3 else 0
   |_=>2):=by rw[HC0.out,if_neg hL];rfl
  have HT1:Hid (Dl t=match P.rd 1000 2 P.nonT L with
   |some (y,_)=>y
   |none=>P.nonT):=by rw[HT0.out,if_neg hL];rfl
  clear HT0;have hlp:0<L.length:=List.length_pos_iff.2 hL;have hl0:¬(L.length:Int)=0:=by omega
  clear HC0 hL;go_wp2_with fail;have hal2:=(Below.refl _ w1).alloc nL (Obj.cells #[sP g 0 L.length c,X 0,.bool false] 213);have PS:Hid (PsAt (w1.alloc (Obj.cells #[sP g 0 L.length c,X 0,.bool false] 213)) w1.heap.size g c L 0 false):=⟨by simp,by simp,by simp,by simp,by simp,by omega,by simp;omega,λj l hj=>(hal2.cell (p:=(E g j)) hgl).trans (HROW j l hj)⟩;have kr2:(w1.alloc (Obj.cells #[sP g 0 L.length c,X 0,.bool false] 213)).cell? (E w.heap.size 0)=some (.slice none 0 0):=(hal2.cell (p:=(E w.heap.size 0)) hs1).trans kr;have fr2:(w1.alloc (Obj.cells #[sP g 0 L.length c,X 0,.bool false] 213)).frozen? (E w.heap.size 0)=false:=(hal2.frozen (p:=(E w.heap.size 0)) hs1).trans fr;have HB2:Hid (bW w (w1.alloc (Obj.cells #[sP g 0 L.length c,X 0,.bool false] 213))):=HB1.out.alloc (by omega) _;have hs2:w1.heap.size<(w1.alloc (Obj.cells #[sP g 0 L.length c,X 0,.bool false] 213)).heap.size:=by simp
  clear hal2 kr fr HROW HB1;generalize w1.alloc (Obj.cells #[sP g 0 L.length c,X 0,.bool false] 213)=w2 at *;refine((uC w1.heap.size g c L hl200 HZ 1000 1000 nL).2.2 0 _ PS (zL) (by omega)).mono ?_;rintro e w3⟨v,ns,k,b,rfl,f1,_,f3,f4,f5,f6⟩;obtain⟨gn,cn,hv,hBg,hgn,hrg⟩:=f4;have HGN:Hid (w.heap.size<gn):=by show _<_;omega
  subst hv;have hb3:Below w1.heap.size w2 w3:=f5.below (by omega) nL;have kr3:w3.cell? (E w.heap.size 0)=some (.slice none 0 0):=(hb3.cell (p:=(E w.heap.size 0)) hs1).trans kr2;have fr3:w3.frozen? (E w.heap.size 0)=false:=(hb3.frozen (p:=(E w.heap.size 0)) hs1).trans fr2;have HB3:=iH (HB2.out.trans (hb3.mono (by omega)));have hs3:w1.heap.size<w3.heap.size:=lL hs2 f5.size;have hs3':w.heap.size<w3.heap.size:=by omega
  have HP3:=iH f1;have HN3:Hid (Nodes0 w3 gn ns):=kM hgn hrg;have F6:=iH f6;obtain⟨p0,p1,p2,_,_,_,_,_⟩:=f1;clear f5 f6 hb3 kr2 fr2 HB2 hs2 PS hrg hgn
  cases b with
  | true =>
   have HC2:Hid (Ap t=2):=by
    rcases F6.out with⟨e,_⟩|⟨_,_,e3⟩
    .cases e
    rw[List.drop_zero]at e3;rw[HC1.out,e3];rfl
   clear HC1 F6 HN3 HP3;go_wp2_with fail;exact bodyPost_ret (v:=.tuple #[.agg #[.slice none 0 0],X 2]) (by rw[results_cell_tmp rfl];simp[go_sem,kr3,hs3']) rfl ⟨none,0,(by rw[HC2.out,Ea HC2.out (by omega)];rfl),.inl ⟨Ea HC2 (by omega),rfl⟩,(by have:=HB3.out;go_grown)⟩
  | false =>
   obtain⟨y,e3,e4⟩:∃y,P.rd 1000 2 P.nonT L=some (y,L.drop k)/\ns=post y:=by
    rcases F6.out with⟨_,_,y,e3,e4⟩|⟨e,_⟩
    .rw[List.drop_zero]at e3;exact⟨y,e3,e4⟩
    cases e
   by_cases hkl:k<L.length
   .have HC2:Hid (Ap t=2):=by
     rw[HC1.out,e3];rw[List.drop_eq_getElem_cons hkl];rfl
    have hkl':(k:Int)<(L.length:Int):=by omega
    clear HC1 F6 HN3 HP3 e3 e4;go_wp2_with fail;exact bodyPost_ret (v:=.tuple #[.agg #[.slice none 0 0],X 2]) (by rw[results_cell_tmp rfl];simp[go_sem,kr3,hs3']) rfl ⟨none,0,(by rw[HC2.out,Ea HC2.out (by omega)];rfl),.inl ⟨Ea HC2 (by omega),rfl⟩,(by have:=HB3.out;go_grown)⟩
   obtain⟨_,a2,a3,_,a5,a6⟩:=P.rd_rd 1000 2 P.nonT _ _ _ (λh=>by omega) e3;obtain⟨b1,_⟩:=Gw 1000 2 P.nonT _ _ _ (λh=>by omega) e3;rw[if_pos (by omega)]at a5;have HC2:Hid (Ap t=if 20<P.tall y then 3 else 0):=by
    rw[HC1.out,e3,List.drop_eq_nil_of_le (by omega)];rfl
   have HY:Hid (Dl t=y):=by rw[HT1.out,e3];rfl
   have HE4:=iH e4;have HV:Hid (Ie ns=decide (P.tall y<=20)):=by rw[e4];exact Vc a3 b1 (by omega)
   have HSM:Hid (gO ns):=by
    rw[e4];refine⟨by rw[Qj y a3];omega,λn hn=>?_⟩;have:=Wy y a3 b1 n hn;omega
   have hkl':¬(k:Int)<(L.length:Int):=by omega
   clear HC1 F6 HP3 e3 e4 a2 a3 a5 a6 b1;go_wp2_with fail;have hal:=(Below.refl _ w3).alloc nL (Obj.cells #[sP gn 0 ns.length cn] 174);refine(Rh ns gn cn _ (HN3.out.grown hal) HSM).mono ?_;rintro e w5⟨rfl,hb5⟩;have kr5:w5.cell? (E w.heap.size 0)=some (.slice none 0 0):=(hb5.cell (p:=(E w.heap.size 0)) (by simp;omega)).trans ((hal.cell (p:=(E w.heap.size 0)) hs3').trans kr3);have fr5:w5.frozen? (E w.heap.size 0)=false:=(hb5.frozen (p:=(E w.heap.size 0)) (by simp;omega)).trans ((hal.frozen (p:=(E w.heap.size 0)) hs3').trans fr3);have kx5:w5.cell? (E w3.heap.size 0)=some (sP gn 0 ns.length cn):=(hb5.cell (p:=(E w3.heap.size 0)) (by simp)).trans (by simp);have HB5:Hid (bW w w5):=(HB3.out.trans (hal.mono HB3.out.size)).trans (hb5.mono (by simp;omega));rw[HV.out];have HN5:Hid (Nodes0 w5 gn ns):=(HN3.out.grown hal).grown hb5;clear hb5 hal HV HSM HN3 HB3 kr3 fr3 p0 p1 p2;by_cases h20:P.tall y<=20
   .rw[decide_eq_true h20]
    have HC3:Hid (Ap t=0):=by rw[HC2.out,if_neg (by omega)];rfl
    clear HC2;go_wp2_with fail;exact bodyPost_ret (v:=.tuple #[.agg #[sP gn 0 ns.length cn],X 0]) (by rw[results_cell_tmp rfl];simp[go_sem,kr5]) rfl ⟨(O gn 0),cn,(by rw[HC3.out,Iu HC3.out HY.out,<-HE4.out];rfl),.inr ⟨gn,rfl,lE HGN,by rw[Iu HC3.out HY.out,<-HE4.out];exact Nodes0.setCell (a:=(E w.heap.size 0)) HN5 (by show gn≠w.heap.size;have:=HGN.out;omega) _⟩,(by have:=HB5.out;go_grown)⟩
   rw[decide_eq_false h20];have HC3:Hid (Ap t=3):=by rw[HC2.out,if_pos (by omega)];rfl
   clear HC2;go_wp2_with fail;exact bodyPost_ret (v:=.tuple #[.agg #[.slice none 0 0],X 3]) (by rw[results_cell_tmp rfl];simp[go_sem,kr5]) rfl ⟨none,0,(by rw[HC3.out,Ea HC3.out (by omega)];rfl),.inl ⟨Ea HC3 (by omega),rfl⟩,(by have:=HB5.out;go_grown)⟩
theorem Qb(t:BA)(w:World)(hm:t.size<=maxLen) :
  Calls prog 80 #[Y t] w (Rt (.bool (decide (Ap t=0))) w):=by
 go_enter func80,ntmps80;go_wp2_with fail;refine(Zl t _ hm).mono ?_;rintro e w1⟨a,c,rfl,_,hb⟩;have HB:=iH hb;have hz:=hb.size;clear hb
 go_wp2
 go_ret;exact⟨Ab (by rw[Bool.eq_iff_iff];simp),by have:=HB.out;go_grown⟩
def Pv(l:Lik):Bool:=decide (Ap l.select=0)&&inB l.weight (-9) 9
def Ej(x:Cpy):Bool:=decide (Ap x.select=0)&&(decide (x.likes.length<=5)&&(inB x.apart 0 2&&(Cb x.near&&Cb x.fixed)))
def Ke(x:Cpy):Bool:=!Ej x
def Sm(x:Cpy):Bool:=P.nameOk x.name&&(P.nameOk x.service&&(inB x.rank 0 100&&(inB x.born 0 1000000&&(inB x.room 0 1000&&(inB x.hold 0 1000&&(Ej x&&x.likes.all Pv))))))
theorem Ux{s:BA}(h:s=⟨#[]⟩):Cb s=true:=by subst h;rfl
theorem bP{s:BA}(h:¬s=⟨#[]⟩):Cb s=P.nameOk s:=by
 have:s.size≠0:=λe=>h (ByteArray.ext (Array.eq_empty_of_size_eq_zero e))
 simp[Cb,this]
theorem Rf{s:BA}(h:s=⟨#[]⟩):s.toList=[]:=by rw[ByteArray.toList_eq,h]
theorem Zg{s:BA}(h:¬s=⟨#[]⟩):¬s.toList=[]:=by
 rw[ByteArray.toList_eq];exact λe=>h (by cases s with|mk x=>cases x;simp at e;simp[e])
theorem Wx{s:BA}(h:s=⟨#[]⟩):s.toList.isEmpty=true:=by rw[Rf h];rfl
theorem gL{s:BA}(h:¬s=⟨#[]⟩):s.toList.isEmpty=false:=by simpa using Zg h
theorem gC(x:Cpy)(a7:OA)(c7 lo:Nat)(w:World)(z0:x.name.size<=maxLen)(z1:x.service.size<=maxLen)(z6:x.select.size<=maxLen)(hin:sK lo w a7 x.likes)(z9:x.near.size<=maxLen)(z10:x.fixed.size<=maxLen) :
  Calls prog 46 #[.agg (ccA x a7 c7)] w (Rt (.bool (Sm x)) w):=by
 have HI:=iH hin;have Z0:=iH z0;have Z1:=iH z1;have Z6:=iH z6;have Z9:=iH z9;have Z10:=iH z10;have hlen:=hin.1;unfold maxLen at hlen;have HD:Hid (Sm x=(P.nameOk x.name&&(P.nameOk x.service&&(inB x.rank 0 100&&(inB x.born 0 1000000&&(inB x.room 0 1000&&(inB x.hold 0 1000&&(Ej x&&x.likes.all Pv)))))))):=rfl;clear hin z0 z1 z6 z9 z10;generalize Sm x=V at *;go_enter func46,ntmps46;go_wp2_with fail;have HR:=qRa w (ccA x a7 c7) 54 (ccL x a7 c7);have HB:=iH ((Below.refl _ w).alloc nL (Obj.cells (ccA x a7 c7) 54));have HS:Hid (w.heap.size<(w.alloc (Obj.cells (ccA x a7 c7) 54)).heap.size):=by show _<_;simp
 generalize w.alloc (Obj.cells (ccA x a7 c7) 54)=w0 at *;refine(Bj _ _ Z0).mono ?_;rintro e w1⟨rfl,rfl⟩
 cases h0:P.nameOk x.name with
 |false =>
  have HC:Hid (V=false):=by show _=_;rw[HD.out,h0];rfl
  clear h0 HD
  go_wp2
  go_ret;exact⟨Ab HC.out.symm,HB⟩
 |true =>
 rw[h0,Bool.true_and]at HD;clear h0;have e0:w1.cell? (E w.heap.size 1)=some (Y x.service):=HR.out 1 _ rfl;go_wp2_with fail;clear e0;refine(Bj _ _ Z1).mono ?_;rintro e w1⟨rfl,rfl⟩
 cases h0:P.nameOk x.service with
 |false =>
  have HC:Hid (V=false):=by show _=_;rw[HD.out,h0];rfl
  clear h0 HD
  go_wp2
  go_ret;exact⟨Ab HC.out.symm,HB⟩
 |true =>
 rw[h0,Bool.true_and]at HD;clear h0;have e0:w1.cell? (E w.heap.size 2)=some (X x.rank):=HR.out 2 _ rfl;go_wp2_with fail;clear e0;refine(Fe _ _ _ _).mono ?_;rintro e w1⟨rfl,rfl⟩
 cases h0:inB x.rank 0 100 with
 |false =>
  have HC:Hid (V=false):=by show _=_;rw[HD.out,h0];rfl
  clear h0 HD
  go_wp2
  go_ret;exact⟨Ab HC.out.symm,HB⟩
 |true =>
 rw[h0,Bool.true_and]at HD;clear h0;have e0:w1.cell? (E w.heap.size 3)=some (X x.born):=HR.out 3 _ rfl;go_wp2_with fail;clear e0;refine(Fe _ _ _ _).mono ?_;rintro e w1⟨rfl,rfl⟩
 cases h0:inB x.born 0 1000000 with
 |false =>
  have HC:Hid (V=false):=by show _=_;rw[HD.out,h0];rfl
  clear h0 HD
  go_wp2
  go_ret;exact⟨Ab HC.out.symm,HB⟩
 |true =>
 rw[h0,Bool.true_and]at HD;clear h0;have e0:w1.cell? (E w.heap.size 4)=some (X x.room):=HR.out 4 _ rfl;go_wp2_with fail;clear e0;refine(Fe _ _ _ _).mono ?_;rintro e w1⟨rfl,rfl⟩
 cases h0:inB x.room 0 1000 with
 |false =>
  have HC:Hid (V=false):=by show _=_;rw[HD.out,h0];rfl
  clear h0 HD
  go_wp2
  go_ret;exact⟨Ab HC.out.symm,HB⟩
 |true =>
 rw[h0,Bool.true_and]at HD;clear h0;have e0:w1.cell? (E w.heap.size 5)=some (X x.hold):=HR.out 5 _ rfl;go_wp2_with fail;clear e0;refine(Fe _ _ _ _).mono ?_;rintro e w1⟨rfl,rfl⟩
 cases h0:inB x.hold 0 1000 with
 |false =>
  have HC:Hid (V=false):=by show _=_;rw[HD.out,h0];rfl
  clear h0 HD
  go_wp2
  go_ret;exact⟨Ab HC.out.symm,HB⟩
 |true =>
 rw[h0,Bool.true_and]at HD;clear h0;have HD3:Hid (Ej x=(decide (Ap x.select=0)&&(decide (x.likes.length<=5)&&(inB x.apart 0 2&&(Cb x.near&&Cb x.fixed))))):=rfl;go_upto_region 3 with fail
 go_cut [75] (λc wx=>c=.bool (Ke x)/\Hid (bW w1 wx))
 case first =>
  have e6:w1.cell? (E w.heap.size 6)=some (Y x.select):=HR.out 6 _ rfl;go_wp2_with fail;clear e6;refine(Qb _ _ Z6).mono ?_;rintro e w2⟨rfl,hb⟩;have HR2:=iH (Ac HR hb HS);have HB2:=iH hb;clear hb
  cases h0:decide (Ap x.select=0)with
  |false =>
   have HC:Hid (Ej x=false):=by show _=_;rw[HD3.out,h0];rfl
   clear h0 HD3 HD
   go_wp2
   go_meet;exact⟨by rw[Ke,HC.out];rfl,HB2⟩
  |true =>
  rw[h0,Bool.true_and]at HD3;clear h0;have e7:w2.cell? (E w.heap.size 7)=some (.slice a7 x.likes.length c7):=HR2.out 7 _ rfl;by_cases hl5:x.likes.length<=5
  rotate_left
  .have HC:Hid (Ej x=false):=by show _=_;rw[HD3.out,decide_eq_false hl5];rfl
   clear HD3 HD
   go_wp2
   go_meet;exact⟨by rw[Ke,HC.out];rfl,HB2⟩
  rw[decide_eq_true hl5,Bool.true_and]at HD3;have e8:w2.cell? (E w.heap.size 8)=some (X x.apart):=HR2.out 8 _ rfl;go_wp2_with fail;refine(Fe _ _ _ _).mono ?_;rintro e w3⟨rfl,rfl⟩;clear e7 e8
  cases h0:inB x.apart 0 2 with
  |false =>
   have HC:Hid (Ej x=false):=by show _=_;rw[HD3.out,h0];rfl
   clear h0 HD3 HD
   go_wp2
   go_meet;exact⟨by rw[Ke,HC.out];rfl,HB2⟩
  |true =>
  rw[h0,Bool.true_and]at HD3;clear h0;have e9:w3.cell? (E w.heap.size 9)=some (Y x.near):=HR2.out 9 _ rfl;have e10:w3.cell? (E w.heap.size 10)=some (Y x.fixed):=HR2.out 10 _ rfl;by_cases hn:x.near=⟨#[]⟩
  .have htn:=Rf hn
   have htn2:=Wx hn;rw[Ux hn,Bool.true_and]at HD3;clear hn;by_cases hf:x.fixed=⟨#[]⟩
   .have HC:Hid (Ej x=true):=by show _=_;rw[HD3.out,Ux hf]
    have hte:=Rf hf;have hte2:=Wx hf;clear hf HD3 HD
    go_wp2
    go_meet;exact⟨by rw[Ke,HC.out,decide_eq_false (by omega)];rfl,HB2⟩
   have hte:=Zg hf;have hte2:=gL hf;rw[bP hf]at HD3;clear hf;go_wp2_with fail;refine(Bj _ _ Z10).mono ?_;rintro e w4⟨rfl,rfl⟩
   cases h0:P.nameOk x.fixed with
   |false =>
    have HC:Hid (Ej x=false):=by show _=_;rw[HD3.out,h0]
    clear h0 HD3 HD
    go_wp2
    go_meet;exact⟨by rw[Ke,HC.out];rfl,HB2⟩
   |true =>
    have HC:Hid (Ej x=true):=by show _=_;rw[HD3.out,h0]
    clear h0 HD3 HD
    go_wp2
    go_meet;exact⟨by rw[Ke,HC.out,decide_eq_false (by omega)];rfl,HB2⟩
  have htn:=Zg hn;have htn2:=gL hn;rw[bP hn]at HD3;clear hn;go_wp2_with fail;refine(Bj _ _ Z9).mono ?_;rintro e w4⟨rfl,rfl⟩
  cases h0:P.nameOk x.near with
  |false =>
   have HC:Hid (Ej x=false):=by show _=_;rw[HD3.out,h0];rfl
   clear h0 HD3 HD
   go_wp2
   go_meet;exact⟨by rw[Ke,HC.out];rfl,HB2⟩
  |true =>
  rw[h0,Bool.true_and]at HD3;clear h0;by_cases hf:x.fixed=⟨#[]⟩
  .have HC:Hid (Ej x=true):=by show _=_;rw[HD3.out,Ux hf]
   have hte:=Rf hf;have hte2:=Wx hf;clear hf HD3 HD
   go_wp2
   go_meet;exact⟨by rw[Ke,HC.out,decide_eq_false (by omega)];rfl,HB2⟩
  have hte:=Zg hf;have hte2:=gL hf;rw[bP hf]at HD3;clear hf;go_wp2_with fail;refine(Bj _ _ Z10).mono ?_;rintro e w4⟨rfl,rfl⟩
  cases h0:P.nameOk x.fixed with
  |false =>
   have HC:Hid (Ej x=false):=by show _=_;rw[HD3.out,h0]
   clear h0 HD3 HD
   go_wp2
   go_meet;exact⟨by rw[Ke,HC.out];rfl,HB2⟩
  |true =>
   have HC:Hid (Ej x=true):=by show _=_;rw[HD3.out,h0]
   clear h0 HD3 HD
   go_wp2
   go_meet;exact⟨by rw[Ke,HC.out,decide_eq_false (by omega)];rfl,HB2⟩
 obtain⟨rfl,hbc⟩:=hcut;have HRC:=iH (Ac HR hbc.out HS);have HBC:=iH (HB.out.trans (hbc.out.mono HB.out.size));have HSC:Hid (w.heap.size<wc.heap.size):=lL HS hbc.out.size;clear hbc HR HB HS;have HBD:Hid (Ke x=!Ej x):=rfl
 cases h3:Ke x with
 | true =>
  have HC:Hid (V=false):=by
   have h4:=HBD.out.symm.trans h3;show _=_
   rw[HD.out,show Ej x=false from by simpa using h4];rfl
  clear h3 HD HD3
  go_wp2
  go_ret;exact⟨Ab HC.out.symm,HBC⟩
 |false =>
 have HD2:Hid (V=x.likes.all Pv):=by
  have h4:=HBD.out.symm.trans h3;show _=_
  rw[HD.out,show Ej x=true from by simpa using h4];rfl
 clear h3 HD HD3
 go_wp2
 go_loopw [3] (λi wr=>∃k:Nat,k<=x.likes.length/\i=X k/\Hid (∀j y,j<k->x.likes[j]?=some y->Pv y=true)/\wr.cell? (E w.heap.size 7)=some (.slice a7 x.likes.length c7)/\Hid (w.heap.size<wr.heap.size)/\Hid (bW w wr)) (λi _=>x.likes.length-(intOf i).toNat)
 case atStart=>exact⟨0,zL,rfl,λj y h=>absurd h (Nat.not_lt_zero _),HRC 7 _ rfl,HSC,HBC⟩
 clear HRC HSC HBC;obtain⟨k,hk,rfl,ho,hcell,hsz,hbel⟩:=hrel;by_cases hlt:k<x.likes.length
 .obtain⟨y,hy⟩:=gXe hlt
  obtain⟨b,o,rfl,_,hbl,hc⟩:=(HI.out.below LikC.holds hbel.out nL).at hy;obtain⟨q0,q1,z0⟩:=hc;simp only[Nat.add_zero]at q0 q1;have HX:=iH hy;have HZ:=iH z0;have bad:Hid (Pv y=false->V=false):=λh=>by rw[HD2.out];exact List.all_eq_false.mpr ⟨y,List.mem_of_getElem? HX,by simp[h]⟩
  have HSL:Hid (Pv y=(decide (Ap y.select=0)&&inB y.weight (-9) 9)):=rfl;clear hy z0;go_wp2_with fail;refine(Qb _ _ HZ).mono ?_;rintro e w5⟨rfl,hb5⟩;have HB5:=qTH hbel hb5;have HS5:Hid (w.heap.size<w5.heap.size):=lL hsz.out hb5.size;have c5:w5.cell? (E w.heap.size 7)=some (sP b o x.likes.length c7):=(hb5.cell (p:=(E w.heap.size 7)) hsz.out).trans hcell;have r1:w5.cell? (E b (o+k*2+1))=some (X y.weight):=(hb5.cell (p:=(E b (o+k*2+1))) hbl).trans q1;clear hb5 q0 q1 hcell hbel hsz
  cases h0:decide (Ap y.select=0)with
  |false =>
   have HC:Hid (V=false):=bad.out (by rw[HSL.out,h0];rfl);clear h0 bad HSL ho HD2
   go_wp2
   go_ret;exact⟨Ab HC.out.symm,HB5⟩
  |true =>
  rw[h0,Bool.true_and]at HSL;clear h0;go_wp2_with fail;refine(Fe _ _ _ _).mono ?_;rintro e w6⟨rfl,rfl⟩;clear r1
  cases h0:inB y.weight (-9) 9 with
  |false =>
   have HC:Hid (V=false):=bad.out (by rw[HSL.out,h0]);clear h0 bad HSL ho HD2
   go_wp2
   go_ret;exact⟨Ab HC.out.symm,HB5⟩
  | true =>
   have HO:Hid (∀j z,j<k+1->x.likes[j]?=some z->Pv z=true):=by
    intro j z hj hz;by_cases e:j=k
    .subst e
     rw[HX.out]at hz;cases hz
     rw[HSL.out,h0]
    exact ho.out j z (by omega) hz
   clear h0 bad HSL ho
   go_wp2
   go_roundw
   case rel=>exact⟨k+1,by omega,by go_num,HO,c5,HS5,HB5⟩
   simp[intOf];omega
 have hke:k=x.likes.length:=by omega
 have HC:Hid (V=true):=by
  show _=_
  rw[HD2.out];simp only[List.all_eq_true];intro y hy;obtain⟨j,hj,e⟩:=List.mem_iff_getElem.mp hy;exact ho.out j y (by omega) (by rw[gE hj,e])
 clear ho HD2
 go_wp2
 go_ret;exact⟨Ab HC.out.symm,hbel.out⟩
end Go.Proofs.YthboopnmbglkjaaGreat
