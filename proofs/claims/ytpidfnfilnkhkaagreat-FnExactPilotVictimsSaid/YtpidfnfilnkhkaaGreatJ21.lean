import Derived.Test.YtpidfnfilnkhkaaGreatJ20
import Derived.Laws.ResultCell
set_option maxHeartbeats 8000000
namespace Go.Proofs.YtpidfnfilnkhkaaGreat
open Tryz
set_option maxRecDepth 100000
open Go.RowKit Tryz
def vD(ns:List P.Nd):Bool:=match P.kidsOf ns with|some (_,[_])=>true|_=>false
def Pz(len:Nat)(n:P.Nd):Bool:=!(decide (0<=n.kind/\n.kind<=5)&&decide (n.kids=P.arity n.kind)&&!(decide (n.kind=0)&&decide (1<len)))
def Vi(n:P.Nd):Bool:=!((if n.kind=1\/n.kind=2 then P.nameOk n.name else decide (n.name.size=0))&&(if n.kind=2 then P.nameOk n.value else decide (n.value.size=0)))
theorem Dv(len:Nat)(n:P.Nd):P.nodeOk len n=(!Pz len n&&!Vi n):=by
 unfold P.nodeOk Pz Vi;simp only[Bool.not_not,Bool.and_assoc]
theorem Fu{ns:List P.Nd}{k:Nat}{n:P.Nd}(hn:ns[k]?=some n)(h:P.nodeOk ns.length n=false):P.treeOk ns=false:=by
 cases e:P.treeOk ns with
 |false=>rfl
 |true =>
  simp only[P.treeOk,Bool.and_eq_true,List.all_eq_true]at e;rw[e.2 n (List.mem_of_getElem? hn)]at h;cases h
theorem Vv{ns:List P.Nd}{k:Nat}{n:P.Nd}(h:∀j m,j<k->ns[j]?=some m->P.nodeOk ns.length m=true)(hn:ns[k]?=some n)(ho:P.nodeOk ns.length n=true) :
  ∀j m,j<k+1->ns[j]?=some m->P.nodeOk ns.length m=true:=by
 intro j m hj hm;by_cases e:j=k
 .subst e
  rw[hn]at hm;cases hm
  exact ho
 .exact h j m (by omega) hm
theorem Hu(ns:List P.Nd):P.treeOk ns=(decide (ns.length<=400)&&vD ns&&ns.all (P.nodeOk ns.length)):=rfl
theorem Xp(ns:List P.Nd)(g cn:Nat)(w:World)(hN:Nodes0 w g ns)(hlen:ns.length<=400) :
  Calls prog 123 #[.agg #[.slice (some ⟨g,0,none⟩) ns.length cn]] w λe w'=>∃v,e=.returned (.tuple #[v,.bool (vD ns)])/\Below w.heap.size w w':=by
 refine(Vc ns g cn w hN hlen).mono ?_;rintro e w' ⟨hb,h⟩;unfold vD
 cases hk:P.kidsOf ns with
 |none =>
  rw[hk]at h;obtain⟨v,rfl⟩:=h;exact⟨v,rfl,hb⟩
 |some p =>
  obtain⟨out,st⟩:=p;rw[hk]at h;obtain⟨go,co,rfl,_,_⟩:=h
  match st with
  |[]=>exact⟨_,rfl,hb⟩
  |[_]=>exact⟨_,rfl,hb⟩
  |_::_::r=>exact⟨.slice (some ⟨go,0,none⟩) ns.length co,by simp,hb⟩
def Rc(b b0 κ:Nat)(kids:Int)(g len cn:Nat)(w:World):Prop :=
 w.cell? ⟨b,0,none⟩=some (.int .i64 (κ:Int))/\w.cell? ⟨b,3,none⟩=some (.int .i64 kids)/\w.cell? ⟨b0,0,none⟩=some (.slice (some ⟨g,0,none⟩) len cn)
theorem Lk{b b0 κ:Nat}{kids:Int}{g len cn:Nat}{w:World}{o:Obj}(h:Rc b b0 κ kids g len cn w.drew):Rc b b0 κ kids g len cn (w.alloc o).drew:=by
 obtain⟨h1,h2,h3⟩:=h;have key:∀(x j:Nat)(v:Value),w.drew.cell? ⟨x,j,none⟩=some v->(w.alloc o).drew.cell? ⟨x,j,none⟩=some v:=by
  intro x j v hv;have hv':w.cell? ⟨x,j,none⟩=some v:=by simpa using hv
  have:=(((Below.refl w.heap.size w).alloc nL o).cell (p:=⟨x,j,none⟩) (block_lt_of_cell hv')).trans hv';simpa using this
 exact⟨key _ _ _ h1,key _ _ _ h2,key _ _ _ h3⟩
theorem CI(W:World)(κ:Nat)(h:κ<=5):((W.alloc (.cells #[.int .i64 0,.int .i64 0,.int .i64 0,.int .i64 1,.int .i64 2,.int .i64 2] 3)).drew).cell? ⟨W.heap.size,κ,none⟩=some (.int .i64 (P.arity (κ:Int))):=by
 match κ,h with
 |0,_=>simp[P.arity]
 |1,_=>simp[P.arity]
 |2,_=>simp[P.arity]
 |3,_=>simp[P.arity]
 |4,_=>simp[P.arity]
 |5,_=>simp[P.arity]
theorem Yu(ns:List P.Nd)(g cn:Nat)(w:World)(hN:Nodes0 w g ns)(hsm:cH ns) :
  Calls prog 156 #[.agg #[.slice (some ⟨g,0,none⟩) ns.length cn]] w (Rt (.bool (P.treeOk ns)) w):=by
 have HN:=iH hN;have HS:=iH hsm;have hlm:=hsm.1;clear hN hsm;by_cases hlen:400<ns.length
 .have HE:Hid (P.treeOk ns=false):=by
   show _=_
   rw[Hu,decide_eq_false (by omega)];rfl
  go_enter func156,ntmps156
  go_wp2
  go_ret;exact⟨by rw[HE.out];rfl,(Below.refl _ _).alloc nL _⟩
 have hlen':ns.length<=400:=by omega
 cases hk:vD ns with
 | false =>
  have HE:Hid (P.treeOk ns=false):=by
   show _=_
   rw[Hu,hk];simp
  have HK:=iH hk;clear hk;go_enter func156,ntmps156;go_wp2_with fail;refine(Xp ns g cn _ (HN.out.grown (by go_grown)) hlen').mono ?_;rintro e w1⟨v,rfl,hb⟩;rw[HK.out]
  go_wp2
  go_ret;exact⟨by rw[HE.out];rfl,((Below.refl _ w).alloc nL _).trans (hb.mono (by simp))⟩
 | true =>
  have HK:=iH hk;clear hk;go_enter func156,ntmps156;go_wp2_with fail;refine(Xp ns g cn _ (HN.out.grown (by go_grown)) hlen').mono ?_;rintro e w1⟨v,rfl,hb⟩;rw[HK.out];have hB1:Below w.heap.size w w1:=((Below.refl _ w).alloc nL _).trans (hb.mono (by simp));have hc1:w1.cell? ⟨w.heap.size,0,none⟩=some (.slice (some ⟨g,0,none⟩) ns.length cn):=(hb.cell (p:=⟨w.heap.size,0,none⟩) (by simp)).trans (by simp);have hz1:w.heap.size<w1.heap.size:=by have:=hb.size;simp at this;omega
  have HN1:Hid (Nodes0 w1 g ns):=HN.out.grown hB1;clear hb
  go_wp2
  go_loopw [5] (λi wr=>∃(k:Nat),k<=ns.length/\i=.int .i64 k/\Hid (∀j n,j<k->ns[j]?=some n->P.nodeOk ns.length n=true)/\Below w1.heap.size w1 wr) (λi _=>ns.length-(intOf i).toNat)
  case atStart=>exact⟨0,zL,rfl,λj n h=>by omega,Below.refl _ _⟩
  case round =>
   obtain⟨k,hk,rfl,hall,hbel⟩:=hrel;have cx:wr.cell? ⟨w.heap.size,0,none⟩=some (.slice (some ⟨g,0,none⟩) ns.length cn):=(hbel.cell (p:=⟨w.heap.size,0,none⟩) hz1).trans hc1;by_cases hlt:k<ns.length
   .obtain⟨n,hn⟩:=gXe hlt
    obtain⟨r0,r1,r2,r3⟩:=(HN1.out.grown hbel).2 k n hn;have HKn:=iH hn;have hsz:=HS.out.2 n (List.mem_of_getElem? hn);obtain⟨hs1,hs2⟩:=hsz;have hbs:=hbel.size;clear hn;go_upto_region 10 with fail;generalize hW:wr.alloc (.cells #[.int .i64 n.kind,.string n.name,.string n.value,.int .i64 n.kids] 184)=W;have hz:W.heap.size=wr.heap.size+1:=by rw[<-hW];simp
    have q0:W.cell? ⟨wr.heap.size,0,none⟩=some (.int .i64 n.kind):=by rw[<-hW];simp
    have q1:W.cell? ⟨wr.heap.size,1,none⟩=some (.string n.name):=by rw[<-hW];simp
    have q2:W.cell? ⟨wr.heap.size,2,none⟩=some (.string n.value):=by rw[<-hW];simp
    have q3:W.cell? ⟨wr.heap.size,3,none⟩=some (.int .i64 n.kids):=by rw[<-hW];simp
    have hbW:Below w1.heap.size w1 W:=by rw[<-hW];exact hbel.alloc hbs _
    have cW:W.cell? ⟨w.heap.size,0,none⟩=some (.slice (some ⟨g,0,none⟩) ns.length cn):=(hbW.cell (p:=⟨w.heap.size,0,none⟩) hz1).trans hc1;clear hW r0 r1 r2 r3 cx
    go_cut [55] (λc wx=>c=.bool (Pz ns.length n)/\Below W.heap.size W wx)
    case first =>
     by_cases ho:n.kind<0\/5<n.kind
     .have cI:∀d os,Calls prog 38 #[.int .i64 n.kind,.int .i64 0,.int .i64 5] (Sort.grow (redrawn W d) os) λe w''=>e=.returned (.bool false)/\∃p:Regrown,w''=Sort.grow (redrawn W p.d) p.os:=λd os=>by
       refine(Ff _ _ _ _).mono ?_;rintro e w' ⟨rfl,rfl⟩;exact⟨by rw[inB,decide_eq_false (by omega)],⟨d,os⟩,rfl⟩
      have l0:=cell_regrown q0;have HB:Hid (Pz ns.length n=true):=by
       show _=_
       unfold Pz;rw[decide_eq_false (by omega)];rfl
      refine wp_region_quiet_below (by kernel_rfl) (by kernel_rfl) ?_
      repeat(go_big_quiet_step (exact cI _ _))
      refine wpQuiet_nil ?_;intro w5 hw';obtain⟨⟨dq,osq⟩,hw''⟩:=hw';have hB:=below_regrown W dq osq;simp only[]at hw'';rw[<-hw'']at hB;clear hw'' cI l0
      go_wp2
      go_meet;exact⟨by rw[HB.out],hB⟩
     .obtain⟨κ,hκ⟩:=Int.eq_ofNat_of_zero_le (show 0<=n.kind by omega)
      have hκ5:κ<=5:=by omega
      have hin:inB (κ:Int) 0 5=true:=by unfold inB;simp;omega
      rw[hκ]at q0;have hrow:=CI W κ hκ5;rw[hz]at hrow;have i0:(0:Int)<=(κ:Int):=by omega
      have i1:(κ:Int)<6:=by omega
      have HKK:=iH hκ;have hBr:Below W.heap.size W ((W.alloc (.cells #[.int .i64 0,.int .i64 0,.int .i64 0,.int .i64 1,.int .i64 2,.int .i64 2] 3)).drew):=below_drewN ((Below.refl W.heap.size W).alloc nL _) 1;have HBR:=iH hBr;clear hκ ho hBr;generalize hA:P.arity (κ:Int)=A at hrow;have HA:=iH hA;clear hA;by_cases hkk:n.kids=A
      .rw[hkk]at q3
       by_cases hκ0:κ=0
       .have e0:((κ:Int)==0)=true:=by rw[beq_iff_eq];omega
        by_cases hl1:1<ns.length
        .have HB:Hid (Pz ns.length n=true):=by show _=_;simp[Pz,HKK.out,hκ0,hl1]
         have l1:(1:Int)<(ns.length:Int):=by omega
         clear hκ0 hkk hl1;refine wp_region_held_drew (S:=Rc wr.heap.size w.heap.size κ A g ns.length cn) (by kernel_rfl) ⟨by simpa using q0,by simpa using q3,by simpa using cW⟩ (λhS=>?_);refine x1 0 31 (.pointer (some ⟨wr.heap.size,0,none⟩)) ?_;refine x1 1 32 (.int .i64 (κ:Int)) ?_;refine rd1 2 ⟨some 33,_,_,_,_,none⟩ rfl (λK hK=>?_);go_simp;refine(Ff _ _ _ _).mono ?_;rintro e w' ⟨rfl,rfl⟩;rw[hin];refine hK.out _ _ hS (λhS=>?_);clear hK K;refine x1 3 34 (.bool false) ?_;refine x1 4 35 (.bool false) ?_;refine x1 5 36 (.pointer (some ⟨wr.heap.size,3,none⟩)) ?_;refine x1 6 37 (.int .i64 A) ?_;refine x1 8 39 (.pointer (some ⟨wr.heap.size,0,none⟩)) ?_;refine x1 9 40 (.int .i64 (κ:Int)) ?_;refine rd1 7 ⟨some 38,_,_,_,_,some (4,false)⟩ rfl (λK hK=>?_);go_simp;refine hK.out _ _ (Lk hS) (λhS=>?_);clear hK K;refine x1 10 41 (.pointer (some ⟨wr.heap.size+1,κ,none⟩)) ?_;refine rd1 11 ⟨some 42,_,_,_,_,some (4,false)⟩ rfl (λK hK=>?_);go_simp;refine hK.out _ _ hS (λhS=>?_);clear hK K;refine x1 12 43 (.bool false) ?_;refine x1 13 44 (.bool false) ?_;refine x1 14 45 (.bool false) ?_;refine x1 15 46 (.pointer (some ⟨wr.heap.size,0,none⟩)) ?_;refine x1 16 47 (.int .i64 (κ:Int)) ?_;refine x1 17 48 (.bool true) ?_;refine x1 18 49 (.bool true) ?_;refine x1 19 50 (.pointer (some ⟨w.heap.size,0,none⟩)) ?_;refine x1 20 51 (.slice (some ⟨g,0,none⟩) ns.length cn) ?_;refine x1 21 52 (.int .i64 (ns.length:Int)) ?_;refine x1 22 53 (.bool true) ?_;refine x1 23 54 (.bool true) ?_;refine x1 24 55 (.bool true) ?_;refine td ?_
         go_wp2
         go_meet;exact⟨by rw[HB.out],HBR⟩
        .have HB:Hid (Pz ns.length n=false):=by show _=_;simp[Pz,HKK.out,hkk,<-HA.out,hl1];omega
         have l1:¬(1:Int)<(ns.length:Int):=by omega
         clear hκ0 hkk hl1;refine wp_region_held_drew (S:=Rc wr.heap.size w.heap.size κ A g ns.length cn) (by kernel_rfl) ⟨by simpa using q0,by simpa using q3,by simpa using cW⟩ (λhS=>?_);refine x1 0 31 (.pointer (some ⟨wr.heap.size,0,none⟩)) ?_;refine x1 1 32 (.int .i64 (κ:Int)) ?_;refine rd1 2 ⟨some 33,_,_,_,_,none⟩ rfl (λK hK=>?_);go_simp;refine(Ff _ _ _ _).mono ?_;rintro e w' ⟨rfl,rfl⟩;rw[hin];refine hK.out _ _ hS (λhS=>?_);clear hK K;refine x1 3 34 (.bool false) ?_;refine x1 4 35 (.bool false) ?_;refine x1 5 36 (.pointer (some ⟨wr.heap.size,3,none⟩)) ?_;refine x1 6 37 (.int .i64 A) ?_;refine x1 8 39 (.pointer (some ⟨wr.heap.size,0,none⟩)) ?_;refine x1 9 40 (.int .i64 (κ:Int)) ?_;refine rd1 7 ⟨some 38,_,_,_,_,some (4,false)⟩ rfl (λK hK=>?_);go_simp;refine hK.out _ _ (Lk hS) (λhS=>?_);clear hK K;refine x1 10 41 (.pointer (some ⟨wr.heap.size+1,κ,none⟩)) ?_;refine rd1 11 ⟨some 42,_,_,_,_,some (4,false)⟩ rfl (λK hK=>?_);go_simp;refine hK.out _ _ hS (λhS=>?_);clear hK K;refine x1 12 43 (.bool false) ?_;refine x1 13 44 (.bool false) ?_;refine x1 14 45 (.bool false) ?_;refine x1 15 46 (.pointer (some ⟨wr.heap.size,0,none⟩)) ?_;refine x1 16 47 (.int .i64 (κ:Int)) ?_;refine x1 17 48 (.bool true) ?_;refine x1 18 49 (.bool true) ?_;refine x1 19 50 (.pointer (some ⟨w.heap.size,0,none⟩)) ?_;refine x1 20 51 (.slice (some ⟨g,0,none⟩) ns.length cn) ?_;refine x1 21 52 (.int .i64 (ns.length:Int)) ?_;refine x1 22 53 (.bool false) ?_;refine x1 23 54 (.bool false) ?_;refine x1 24 55 (.bool false) ?_;refine td ?_
         go_wp2
         go_meet;exact⟨by rw[HB.out],HBR⟩
       .have HB:Hid (Pz ns.length n=false):=by show _=_;simp[Pz,HKK.out,hkk,<-HA.out];omega
        have e0:((κ:Int)==0)=false:=by rw[beq_eq_false_iff_ne];omega
        clear hκ0 hkk;refine wp_region_held_drew (S:=Rc wr.heap.size w.heap.size κ A g ns.length cn) (by kernel_rfl) ⟨by simpa using q0,by simpa using q3,by simpa using cW⟩ (λhS=>?_);refine x1 0 31 (.pointer (some ⟨wr.heap.size,0,none⟩)) ?_;refine x1 1 32 (.int .i64 (κ:Int)) ?_;refine rd1 2 ⟨some 33,_,_,_,_,none⟩ rfl (λK hK=>?_);go_simp;refine(Ff _ _ _ _).mono ?_;rintro e w' ⟨rfl,rfl⟩;rw[hin];refine hK.out _ _ hS (λhS=>?_);clear hK K;refine x1 3 34 (.bool false) ?_;refine x1 4 35 (.bool false) ?_;refine x1 5 36 (.pointer (some ⟨wr.heap.size,3,none⟩)) ?_;refine x1 6 37 (.int .i64 A) ?_;refine x1 8 39 (.pointer (some ⟨wr.heap.size,0,none⟩)) ?_;refine x1 9 40 (.int .i64 (κ:Int)) ?_;refine rd1 7 ⟨some 38,_,_,_,_,some (4,false)⟩ rfl (λK hK=>?_);go_simp;refine hK.out _ _ (Lk hS) (λhS=>?_);clear hK K;refine x1 10 41 (.pointer (some ⟨wr.heap.size+1,κ,none⟩)) ?_;refine rd1 11 ⟨some 42,_,_,_,_,some (4,false)⟩ rfl (λK hK=>?_);go_simp;refine hK.out _ _ hS (λhS=>?_);clear hK K;refine x1 12 43 (.bool false) ?_;refine x1 13 44 (.bool false) ?_;refine x1 14 45 (.bool false) ?_;refine x1 15 46 (.pointer (some ⟨wr.heap.size,0,none⟩)) ?_;refine x1 16 47 (.int .i64 (κ:Int)) ?_;refine x1 17 48 (.bool false) ?_;refine x1 18 49 (.bool false) ?_;refine ts 19 50 ?_;refine ts 20 51 ?_;refine ts 21 52 ?_;refine ts 22 53 ?_;refine x1 23 54 (.bool false) ?_;refine x1 24 55 (.bool false) ?_;refine td ?_
        go_wp2
        go_meet;exact⟨by rw[HB.out],HBR⟩
      .have HB:Hid (Pz ns.length n=true):=by show _=_;simp[Pz,HKK.out,HA.out,hkk]
       have e1:(n.kids==A)=false:=by rw[beq_eq_false_iff_ne];exact hkk
       refine wp_region_held_drew (S:=Rc wr.heap.size w.heap.size κ n.kids g ns.length cn) (by kernel_rfl) ⟨by simpa using q0,by simpa using q3,by simpa using cW⟩ (λhS=>?_);refine x1 0 31 (.pointer (some ⟨wr.heap.size,0,none⟩)) ?_;refine x1 1 32 (.int .i64 (κ:Int)) ?_;refine rd1 2 ⟨some 33,_,_,_,_,none⟩ rfl (λK hK=>?_);go_simp;refine(Ff _ _ _ _).mono ?_;rintro e w' ⟨rfl,rfl⟩;rw[hin];refine hK.out _ _ hS (λhS=>?_);clear hK K;refine x1 3 34 (.bool false) ?_;refine x1 4 35 (.bool false) ?_;refine x1 5 36 (.pointer (some ⟨wr.heap.size,3,none⟩)) ?_;refine x1 6 37 (.int .i64 n.kids) ?_;refine x1 8 39 (.pointer (some ⟨wr.heap.size,0,none⟩)) ?_;refine x1 9 40 (.int .i64 (κ:Int)) ?_;refine rd1 7 ⟨some 38,_,_,_,_,some (4,false)⟩ rfl (λK hK=>?_);go_simp;refine hK.out _ _ (Lk hS) (λhS=>?_);clear hK K;refine x1 10 41 (.pointer (some ⟨wr.heap.size+1,κ,none⟩)) ?_;refine rd1 11 ⟨some 42,_,_,_,_,some (4,false)⟩ rfl (λK hK=>?_);go_simp;refine hK.out _ _ hS (λhS=>?_);clear hK K;refine x1 12 43 (.bool true) ?_;refine x1 13 44 (.bool true) ?_;refine x1 14 45 (.bool true) ?_;refine ts 15 46 ?_;refine ts 16 47 ?_;refine ts 17 48 ?_;refine ts 18 49 ?_;refine ts 19 50 ?_;refine ts 20 51 ?_;refine ts 21 52 ?_;refine ts 22 53 ?_;refine ts 23 54 ?_;refine x1 24 55 (.bool true) ?_;refine td ?_
       go_wp2
       go_meet;exact⟨by rw[HB.out],HBR⟩
    case rest =>
     obtain⟨rfl,hbc⟩:=hcut;have p0:wc.cell? ⟨wr.heap.size,0,none⟩=some (.int .i64 n.kind):=(hbc.cell (p:=⟨wr.heap.size,0,none⟩) (by show wr.heap.size<W.heap.size;omega)).trans q0;have p1:wc.cell? ⟨wr.heap.size,1,none⟩=some (.string n.name):=(hbc.cell (p:=⟨wr.heap.size,1,none⟩) (by show wr.heap.size<W.heap.size;omega)).trans q1;have p2:wc.cell? ⟨wr.heap.size,2,none⟩=some (.string n.value):=(hbc.cell (p:=⟨wr.heap.size,2,none⟩) (by show wr.heap.size<W.heap.size;omega)).trans q2;have HW:=iH (hbW.trans (hbc.mono (by omega)));have HG:=iH (hB1.trans (HW.out.mono (by omega)));have hn1:n.name.size<=maxLen:=by unfold maxLen;omega
     have hn2:n.value.size<=maxLen:=by unfold maxLen;omega
     clear q0 q1 q2 q3 cW hbW hbc hs1 hs2
     cases hb1:Pz ns.length n with
     |true =>
      have HE:Hid (P.treeOk ns=false):=Fu HKn (by rw[Dv,hb1];rfl);clear hb1
      go_wp2
      go_ret;exact⟨by rw[HE.out];rfl,HG⟩
     | false =>
      rcases(show n.kind=1\/n.kind=2\/(¬n.kind=1/\¬n.kind=2) by omega)with hk1|hk2|⟨hk1,hk2⟩
      .rw[hk1]at p0
       cases hm:P.nameOk n.name with
       | false =>
        .have HM:=iH hm
         have HE:Hid (P.treeOk ns=false):=Fu HKn (by rw[Dv,hb1];simp[Vi,hk1,hm]);clear hb1;clear hk1 hm;go_wp2_with fail;refine(Be _ _ (by assumption)).mono ?_;rintro e w' ⟨rfl,rfl⟩;rw[HM.out]
         go_wp2
         go_ret;exact⟨by rw[HE.out];rfl,HG⟩
       | true =>
        by_cases hv:n.value.size=0
        .have HM:=iH hm
         have b3:=Ja hv;have HO:Hid (P.nodeOk ns.length n=true):=by show _=_;rw[Dv,hb1];simp[Vi,hk1,hm,hv]
         clear hb1;clear hk1 hm;go_wp2_with fail;refine(Be _ _ (by assumption)).mono ?_;rintro e w' ⟨rfl,rfl⟩;rw[HM.out]
         go_wp2
         go_roundw
         case rel=>exact⟨k+1,by omega,by go_num,Vv hall.out HKn HO,HW⟩
         case measure=>simp[intOf];omega
        .have HM:=iH hm
         have b3:=Ip hv;have b4:=Gw hv;have HE:Hid (P.treeOk ns=false):=Fu HKn (by rw[Dv,hb1];simp[Vi,hk1,hm,hv]);clear hb1;clear hk1 hm;go_wp2_with fail;refine(Be _ _ (by assumption)).mono ?_;rintro e w' ⟨rfl,rfl⟩;rw[HM.out]
         go_wp2
         go_ret;exact⟨by rw[HE.out];rfl,HG⟩
      ·rw [hk2]at p0
       cases hm:P.nameOk n.name with
       | false =>
        .have HM:=iH hm
         have HE:Hid (P.treeOk ns=false):=Fu HKn (by rw[Dv,hb1];simp[Vi,hk2,hm]);clear hb1;clear hk2 hm;go_wp2_with fail;refine(Be _ _ (by assumption)).mono ?_;rintro e w' ⟨rfl,rfl⟩;rw[HM.out]
         go_wp2
         go_ret;exact⟨by rw[HE.out];rfl,HG⟩
       | true =>
        cases hv:P.nameOk n.value with
        | false =>
         .have HM:=iH hm
          have HV:=iH hv;have HE:Hid (P.treeOk ns=false):=Fu HKn (by rw[Dv,hb1];simp[Vi,hk2,hm,hv]);clear hb1;clear hk2 hm hv;go_wp2_with fail;refine(Be _ _ (by assumption)).mono ?_;rintro e w' ⟨rfl,rfl⟩;rw[HM.out];go_wp2_with fail;refine(Be _ _ (by assumption)).mono ?_;rintro e w' ⟨rfl,rfl⟩;rw[HV.out]
          go_wp2
          go_ret;exact⟨by rw[HE.out];rfl,HG⟩
        | true =>
         .have HM:=iH hm
          have HV:=iH hv;have HO:Hid (P.nodeOk ns.length n=true):=by show _=_;rw[Dv,hb1];simp[Vi,hk2,hm,hv]
          clear hb1;clear hk2 hm hv;go_wp2_with fail;refine(Be _ _ (by assumption)).mono ?_;rintro e w' ⟨rfl,rfl⟩;rw[HM.out];go_wp2_with fail;refine(Be _ _ (by assumption)).mono ?_;rintro e w' ⟨rfl,rfl⟩;rw[HV.out]
          go_wp2
          go_roundw
          case rel=>exact⟨k+1,by omega,by go_num,Vv hall.out HKn HO,HW⟩
          case measure=>simp[intOf];omega
      .by_cases hm:n.name.size=0
       .by_cases hv:n.value.size=0
        .have b1:=Ja hm
         have b3:=Ja hv;have HO:Hid (P.nodeOk ns.length n=true):=by show _=_;rw[Dv,hb1];simp[Vi,hk1,hk2,hm,hv]
         clear hb1
         go_wp2
         go_roundw
         case rel=>exact⟨k+1,by omega,by go_num,Vv hall.out HKn HO,HW⟩
         case measure=>simp[intOf];omega
        .have b1:=Ja hm
         have b3:=Ip hv;have b4:=Gw hv;have HE:Hid (P.treeOk ns=false):=Fu HKn (by rw[Dv,hb1];simp[Vi,hk1,hk2,hm,hv]);clear hb1
         go_wp2
         go_ret;exact⟨by rw[HE.out];rfl,HG⟩
       .have b1:=Ip hm
        have b2:=Gw hm;have HE:Hid (P.treeOk ns=false):=Fu HKn (by rw[Dv,hb1];simp[Vi,hk1,hk2,hm]);clear hb1
        go_wp2
        go_ret;exact⟨by rw[HE.out];rfl,HG⟩
   .have HE:Hid (P.treeOk ns=true):=by
     show _=_
     rw[Hu,HK.out,decide_eq_true hlen',Bool.true_and,Bool.true_and,List.all_eq_true];intro n hn;obtain⟨j,hj⟩:=List.getElem?_of_mem hn;exact hall.out j n (by have:=P.getElem?_lt hj;omega) hj
    go_wp2
    go_ret;exact⟨by rw[HE.out];rfl,hB1.trans (hbel.mono (by have:=hB1.size;omega))⟩
def Ie(ns:List P.Nd):Bool:=P.treeOk ns&&(P.treeI ns).isSome
theorem Vw{ns:List P.Nd}(h:P.treeOk ns=true):ns.length<=400:=by
 rw[Hu]at h;simp only[Bool.and_eq_true,decide_eq_true_eq]at h;exact h.1.1
theorem Rf(ns:List P.Nd)(g cn:Nat)(w:World)(hN:Nodes0 w g ns)(hsm:cH ns) :
  Calls prog 122 #[.agg #[.slice (some ⟨g,0,none⟩) ns.length cn]] w (Rt (.bool (Ie ns)) w):=by
 have HN:=iH hN;have HS:=iH hsm;clear hN hsm
 cases ht:P.treeOk ns with
 |false =>
  have HT:=iH ht;have HV:Hid (Ie ns=false):=by show _=_;rw[Ie,ht];rfl
  clear ht;go_enter func122,ntmps122;go_wp2_with fail;refine(Yu ns g cn _ (HN.out.grown (by go_grown)) HS).mono ?_;rintro e w1⟨rfl,hb⟩;rw[HT.out]
  go_wp2
  go_ret;exact⟨by rw[HV.out];rfl,((Below.refl _ w).alloc nL _).trans (hb.mono (by simp))⟩
 | true =>
  obtain⟨out,r,t,hko,hol,hrl,hIs,hlo,hhi,_,hct⟩:=P.same_tree2 ht;have hlen:=Vw ht;have HT:=iH ht;have HKO:=iH hko;have cc:=λgo co=>tC ns out ns.length co go hol t r hIs (by omega)
  rw[show((r:Nat):Int)=(ns.length:Int)-1 by omega]at cc;have HC:Hid (∀(go co:Nat)(w:World),KidsIn w go out->Calls prog 157 #[.slice (some ⟨go,0,none⟩) ns.length co,.int .i64 ((ns.length:Int)-1)] w λe w'=>e=.returned (.int .i64 (P.tall t:Int))/\w'=w):=cc;have hl1:1<=ns.length:=by omega
  have HV:Hid (Ie ns=decide (P.tall t<=20)):=by
   show _=_
   rw[Ie,ht];by_cases h:P.tall t<=20
   .rw[hlo h,decide_eq_true h];rfl
   .rw[hhi (by omega),decide_eq_false h];rfl
  have htl:P.tall t<=400:=lT (P.tall_le_count t) (by omega);clear ht hko cc hIs hlo hhi hct hrl hol;generalize hT:P.tall t=T at *;clear hT;go_enter func122,ntmps122;go_wp2_with fail;refine(Yu ns g cn _ (HN.out.grown (by go_grown)) HS).mono ?_;rintro e w1⟨rfl,hb⟩;rw[HT.out];have hB1:Below w.heap.size w w1:=((Below.refl _ w).alloc nL _).trans (hb.mono (by simp));have hc1:w1.cell? ⟨w.heap.size,0,none⟩=some (.slice (some ⟨g,0,none⟩) ns.length cn):=(hb.cell (p:=⟨w.heap.size,0,none⟩) (by simp)).trans (by simp);have hz1:w.heap.size<w1.heap.size:=by have:=hb.size;simp at this;omega
  clear hb;go_wp2_with fail;refine(Vc ns g cn _ (HN.out.grown hB1) hlen).mono ?_;rintro e w2⟨hb2,h2⟩;rw[HKO.out]at h2;obtain⟨go,co,rfl,hkin,_⟩:=h2;have hc2:w2.cell? ⟨w.heap.size,0,none⟩=some (.slice (some ⟨g,0,none⟩) ns.length cn):=(hb2.cell (p:=⟨w.heap.size,0,none⟩) hz1).trans hc1;have HB:=iH (hB1.trans (hb2.mono (by omega)));have HK:=iH hkin;clear hb2 hkin hc1;go_wp2_with fail;refine(HC _ _ _ HK).mono ?_;rintro e w3⟨rfl,rfl⟩;by_cases h20:T<=20
  .go_wp2
   go_ret;exact⟨by rw[HV.out,decide_eq_true h20];simp;omega,HB⟩
  .go_wp2
   go_ret;exact⟨by rw[HV.out,decide_eq_false h20];simp;omega,HB⟩
theorem Vg{y:P.Tr}(hw:P.wf y)(h:nOk y)(hc:P.count y<=400):Ie (post y)=decide (P.tall y<=20):=by
 unfold Ie;rw[Ot hw h];by_cases h20:P.tall y<=20
 .rw[if_pos h20,decide_eq_true h20]
  cases ht:P.treeOk (post y)with
  |true=>rfl
  |false =>
   have:=P.no_tree (by rw[Pw y hw];exact hc) ht;rw[Ot hw h,if_pos h20]at this;cases this
 .rw[if_neg h20,decide_eq_false h20]
  simp
theorem jC{w:World}{g:Nat}{ns:List P.Nd}(hg:g<w.heap.size)(h:w.rangeAt g 0 (Cn ns)):Nodes0 w g ns:=by
 refine⟨hg,λj n hj=>?_⟩;have key:∀(ns:List P.Nd)(j:Nat)(n:P.Nd),ns[j]?=some n->∀c,c<4->(Cn ns)[j*4+c]?=(ndv n)[c]?:=by
  intro ns
  induction ns with
  |nil=>intro j n hj;simp at hj
  | cons m r ih =>
   intro j n hj c hc;have e:Cn (m::r)=ndv m++Cn r:=rfl
   cases j with
   |zero =>
    simp at hj;subst hj;rw[e,List.getElem?_append_left (by simp[ndv];omega)];simp
   |succ j =>
    simp at hj;rw[e,List.getElem?_append_right (by simp[ndv];omega),<-ih j n hj c hc]
    congr 1
    simp[ndv];omega
 have k0:=h (j*4) _ (by have:=key ns j n hj 0 (by omega);simpa[ndv]using this);have k1:=h (j*4+1) _ (by have:=key ns j n hj 1 (by omega);simpa[ndv]using this);have k2:=h (j*4+2) _ (by have:=key ns j n hj 2 (by omega);simpa[ndv]using this);have k3:=h (j*4+3) _ (by have:=key ns j n hj 3 (by omega);simpa[ndv]using this);simp only[Nat.zero_add]at k0 k1 k2 k3;exact⟨k0,k1,k2,k3⟩
theorem tS{t:BA}(ht:t.size<=200)(h:(Ad t 0).all Fj=false):Aq t=2:=by
 unfold Aq;rw[if_neg (by omega),if_neg (λe=>by rw[e]at h;cases h)]
 cases hr:P.rd 1000 2 P.nonT (Ad t 0)with
 |none=>rfl
 | some p =>
  obtain⟨y,r⟩:=p
  cases r with
  |nil =>
   obtain⟨_,pre,e1,e2⟩:=Gs 1000 2 _ _ _ _ (λh=>by omega) hr;rw[List.append_nil]at e1;rw[e1,e2]at h;cases h
  |cons a b=>rfl
theorem lP:∀(l:List UInt8),∀x∈P.toks l,x.length<=l.length
 |[],x,h=>by cases h
 | c::r,x,h=>by
  have ih:=lP r;rw[P.toks_cons]at h
  split at h
  .have:=ih x h;simp;omega
  .split at h
   .cases r with
    |nil=>simp[P.onto,P.toks]at h;subst h;simp
    | cons d r' =>
     cases hT:P.toks (d::r')with
     |nil=>rw[hT]at h;simp[P.onto]at h;subst h;simp
     | cons a b =>
      rw[hT]at h ih;have ha:=ih a (by simp);by_cases hd:P.letter d=true
      .simp[P.onto,hd]at h
       rcases h with rfl|h
       .simp at ha⊢;omega
       .have:=ih x (by simp[h]);simp at this⊢;omega
      .simp[P.onto,hd]at h
       rcases h with rfl|rfl|h
       .simp
       .simp at ha⊢;omega
       .have:=ih x (by simp[h]);simp at this⊢;omega
   .rcases List.mem_cons.1 h with rfl|h
    .simp
    .have:=ih x h;simp;omega
def Bf(t:BA):List P.Nd:=if Aq t=0 then post (Dj t)else []
theorem Dw{t:BA}{c:Nat}(h:Aq t=c)(hc:c≠0):Bf t=[]:=by
 unfold Bf;rw[if_neg (by rw[h];exact hc)]
theorem Jc{t:BA}{y:P.Tr}(h:Aq t=0)(hy:Dj t=y):Bf t=post y:=by
 unfold Bf;rw[if_pos h,hy]
def AP(w:World)(B:Nat)(a:OA)(ns:List P.Nd):Prop:=(ns=[]/\a=none)\/∃g,a=some ⟨g,0,none⟩/\B<=g/\Nodes0 w g ns
def zJ(t:BA)(w:World)(e:Ending)(w':World):Prop:=∃a c,e=.returned (.tuple #[.agg #[.slice a (Bf t).length c],.int .i64 (Aq t:Nat)])/\AP w' w.heap.size a (Bf t)/\Below w.heap.size w w'
theorem Zg(t:BA)(w:World)(hm:t.size<=maxLen) :
  Calls prog 91 #[.string t] w λe w'=>zJ t w e w':=by
 unfold maxLen at hm;by_cases hbig:(200:Int)<t.size
 .have HC:Hid (Aq t=1):=by show _=_;unfold Aq;rw[if_pos (by omega)]
  go_enter func91,ntmps91;go_wp2_with fail;refine bodyPost_ret (v:=.tuple #[.agg #[.slice none 0 0],.int .i64 1]) (by rw[results_cell_tmp rfl];simp[go_sem]) rfl ⟨none,0,by rw[HC.out,Dw HC.out (by omega)];rfl,.inl ⟨Dw HC (by omega),rfl⟩,by go_grown⟩
 have ht:t.size<=200:=by omega
 go_enter func91,ntmps91;go_wp2_with fail;refine(gT t _ ht).mono ?_;rintro e w1⟨v,rfl,h1,h2⟩;have kr:w1.cell? ⟨w.heap.size,0,none⟩=some (.slice none 0 0):=(h2.cell (p:=⟨w.heap.size,0,none⟩) (by simp)).trans (by simp);have fr:w1.frozen? ⟨w.heap.size,0,none⟩=false:=(h2.frozen (p:=⟨w.heap.size,0,none⟩) (by simp)).trans (by simp);have HB1:Hid (Below w.heap.size w w1):=(show Below w.heap.size w _ by go_grown).trans (h2.mono (by simp));have hs1:w.heap.size<w1.heap.size:=by have:=h2.size;simp at this;omega
 cases hok:(Ad t 0).all Fj with
 |false =>
  have HC:Hid (Aq t=2):=tS ht hok;clear hok h1 h2;go_wp2_with fail;refine bodyPost_ret (v:=.tuple #[.agg #[.slice none 0 0],.int .i64 2]) (by rw[results_cell_tmp rfl];simp[go_sem,kr]) rfl ⟨none,0,by rw[HC.out,Dw HC.out (by omega)];rfl,.inl ⟨Dw HC (by omega),rfl⟩,HB1.out.setCell nL _⟩
 | true =>
  obtain⟨g,c,rfl,hrow⟩:=h1 hok;have hwb:w.heap.size+1<=g:=by have:=(hrow.lt g rfl).1;simpa using this
  have hgl:g<w1.heap.size:=(hrow.lt g rfl).2;have HROW:Hid (∀j l,(Ad t 0)[j]?=some l->w1.cell? ⟨g,j,none⟩=some (.string (P.bts l))):=λj l hj=>by
   have hlt:=Ac hj;rw[hrow.cellAt j (by omega)];simp[So,hj]
  clear h1 h2 hrow hok;have hl200:=Ic (i:=0) ht;have HZ:Hid (∀l∈Ad t 0,l.length<=200):=λl hl=>by
   have:=lP _ l hl;have h3:(t.data.toList.drop 0).length=t.size:=by simp
   omega
  have HC0:Hid (Aq t=if Ad t 0=[]then 0 else match P.rd 1000 2 P.nonT (Ad t 0)with
   |some (y,[])=>if 20<P.tall y then 3 else 0
   |_=>2):=by show _=_;unfold Aq;rw[if_neg (by omega)];rfl
  have HT0:Hid (Dj t=if Ad t 0=[]then P.nonT else match P.rd 1000 2 P.nonT (Ad t 0)with
   |some (y,_)=>y
   |none=>P.nonT):=rfl
  generalize Ad t 0=L at *;by_cases hL:L=[]
  .subst hL
   have HC:Hid (Aq t=0):=by rw[HC0.out,if_pos rfl];rfl
   have HN:Hid (Bf t=[⟨0,⟨#[]⟩,⟨#[]⟩,0⟩]):=(Jc HC (by rw[HT0.out,if_pos rfl])).trans rfl;clear HT0;go_wp2_with fail;refine bodyPost_ret (v:=.tuple #[.agg #[.slice (some ⟨w1.heap.size,0,none⟩) 1 1],.int .i64 0]) (by rw[results_cell_tmp rfl];simp[go_sem,kr,hs1]) rfl ⟨some ⟨w1.heap.size,0,none⟩,1,(by rw[HC.out,HN.out];rfl),.inr ⟨w1.heap.size,rfl,by omega,?_⟩,(by have:=HB1.out;go_grown)⟩;rw[HN.out];refine⟨by simp,λj n hj=>?_⟩
   cases j with
   |zero=>cases hj;exact⟨by rw[World.cell?_alloc_at _ _ _ _ (by simp[World.setCell])];rfl,by rw[World.cell?_alloc_at _ _ _ _ (by simp[World.setCell])];rfl,by rw[World.cell?_alloc_at _ _ _ _ (by simp[World.setCell])];rfl,by rw[World.cell?_alloc_at _ _ _ _ (by simp[World.setCell])];rfl⟩
   |succ j=>simp at hj
  .have HC1:Hid (Aq t=match P.rd 1000 2 P.nonT L with
    |some (y,[])=>if 20<P.tall y then 3 else 0
    |_=>2):=by rw[HC0.out,if_neg hL];rfl
   have HT1:Hid (Dj t=match P.rd 1000 2 P.nonT L with
    |some (y,_)=>y
    |none=>P.nonT):=by rw[HT0.out,if_neg hL];rfl
   clear HT0;have hlp:0<L.length:=List.length_pos_iff.2 hL;have hl0:¬(L.length:Int)=0:=by omega
   clear HC0 hL;go_wp2_with fail;have hal2:=(Below.refl _ w1).alloc nL (Obj.cells #[.slice (some ⟨g,0,none⟩) L.length c,.int .i64 0,.bool false] 187);have PS:Hid (PsAt (w1.alloc (Obj.cells #[.slice (some ⟨g,0,none⟩) L.length c,.int .i64 0,.bool false] 187)) w1.heap.size g c L 0 false):=⟨by simp,by simp,by simp,by simp,by simp,by omega,by simp;omega,λj l hj=>(hal2.cell (p:=⟨g,j,none⟩) hgl).trans (HROW j l hj)⟩;have kr2:(w1.alloc (Obj.cells #[.slice (some ⟨g,0,none⟩) L.length c,.int .i64 0,.bool false] 187)).cell? ⟨w.heap.size,0,none⟩=some (.slice none 0 0):=(hal2.cell (p:=⟨w.heap.size,0,none⟩) hs1).trans kr;have fr2:(w1.alloc (Obj.cells #[.slice (some ⟨g,0,none⟩) L.length c,.int .i64 0,.bool false] 187)).frozen? ⟨w.heap.size,0,none⟩=false:=(hal2.frozen (p:=⟨w.heap.size,0,none⟩) hs1).trans fr;have HB2:Hid (Below w.heap.size w (w1.alloc (Obj.cells #[.slice (some ⟨g,0,none⟩) L.length c,.int .i64 0,.bool false] 187))):=HB1.out.alloc (by omega) _;have hs2:w1.heap.size<(w1.alloc (Obj.cells #[.slice (some ⟨g,0,none⟩) L.length c,.int .i64 0,.bool false] 187)).heap.size:=by simp
   clear hal2 kr fr HROW HB1;generalize w1.alloc (Obj.cells #[.slice (some ⟨g,0,none⟩) L.length c,.int .i64 0,.bool false] 187)=w2 at *;refine((uN w1.heap.size g c L hl200 HZ 1000 1000 nL).2.2 0 _ PS (zL) (by omega)).mono ?_;rintro e w3⟨v,ns,k,b,rfl,f1,_,f3,f4,f5,f6⟩;obtain⟨gn,cn,hv,hBg,hgn,hrg⟩:=f4;have HGN:Hid (w.heap.size<gn):=by show _<_;omega
   subst hv;have hb3:Below w1.heap.size w2 w3:=f5.below (by omega) nL;have kr3:w3.cell? ⟨w.heap.size,0,none⟩=some (.slice none 0 0):=(hb3.cell (p:=⟨w.heap.size,0,none⟩) hs1).trans kr2;have fr3:w3.frozen? ⟨w.heap.size,0,none⟩=false:=(hb3.frozen (p:=⟨w.heap.size,0,none⟩) hs1).trans fr2;have HB3:=iH (HB2.out.trans (hb3.mono (by omega)));have hs3:w1.heap.size<w3.heap.size:=lL hs2 f5.size;have hs3':w.heap.size<w3.heap.size:=by omega
   have HP3:=iH f1;have HN3:Hid (Nodes0 w3 gn ns):=jC hgn hrg;have F6:=iH f6;obtain⟨p0,p1,p2,_,_,_,_,_⟩:=f1;clear f5 f6 hb3 kr2 fr2 HB2 hs2 PS hrg hgn
   cases b with
   | true =>
    have HC2:Hid (Aq t=2):=by
     rcases F6.out with⟨e,_⟩|⟨_,_,e3⟩
     .cases e
     .rw[List.drop_zero]at e3
      rw[HC1.out,e3];rfl
    clear HC1 F6 HN3 HP3;go_wp2_with fail;exact bodyPost_ret (v:=.tuple #[.agg #[.slice none 0 0],.int .i64 2]) (by rw[results_cell_tmp rfl];simp[go_sem,kr3,hs3']) rfl ⟨none,0,(by rw[HC2.out,Dw HC2.out (by omega)];rfl),.inl ⟨Dw HC2 (by omega),rfl⟩,(by have:=HB3.out;go_grown)⟩
   | false =>
    obtain⟨y,e3,e4⟩:∃y,P.rd 1000 2 P.nonT L=some (y,L.drop k)/\ns=post y:=by
     rcases F6.out with⟨_,_,y,e3,e4⟩|⟨e,_⟩
     .rw[List.drop_zero]at e3;exact⟨y,e3,e4⟩
     .cases e
    by_cases hkl:k<L.length
    .have HC2:Hid (Aq t=2):=by
      rw[HC1.out,e3];rw[List.drop_eq_getElem_cons hkl];rfl
     have hkl':(k:Int)<(L.length:Int):=by omega
     clear HC1 F6 HN3 HP3 e3 e4;go_wp2_with fail;exact bodyPost_ret (v:=.tuple #[.agg #[.slice none 0 0],.int .i64 2]) (by rw[results_cell_tmp rfl];simp[go_sem,kr3,hs3']) rfl ⟨none,0,(by rw[HC2.out,Dw HC2.out (by omega)];rfl),.inl ⟨Dw HC2 (by omega),rfl⟩,(by have:=HB3.out;go_grown)⟩
    .obtain⟨_,a2,a3,_,a5,a6⟩:=P.rd_rd 1000 2 P.nonT _ _ _ (λh=>by omega) e3
     obtain⟨b1,_⟩:=Gs 1000 2 P.nonT _ _ _ (λh=>by omega) e3;rw[if_pos (by omega)]at a5;have HC2:Hid (Aq t=if 20<P.tall y then 3 else 0):=by
      rw[HC1.out,e3,List.drop_eq_nil_of_le (by omega)];rfl
     have HY:Hid (Dj t=y):=by rw[HT1.out,e3];rfl
     have HE4:=iH e4;have HV:Hid (Ie ns=decide (P.tall y<=20)):=by rw[e4];exact Vg a3 b1 (by omega)
     have HSM:Hid (cH ns):=by
      rw[e4];refine⟨by rw[Pw y a3];omega,λn hn=>?_⟩;have:=Wm y a3 b1 n hn;omega
     have hkl':¬(k:Int)<(L.length:Int):=by omega
     clear HC1 F6 HP3 e3 e4 a2 a3 a5 a6 b1;go_wp2_with fail;have hal:=(Below.refl _ w3).alloc nL (Obj.cells #[.slice (some ⟨gn,0,none⟩) ns.length cn] 158);refine(Rf ns gn cn _ (HN3.out.grown hal) HSM).mono ?_;rintro e w5⟨rfl,hb5⟩;have kr5:w5.cell? ⟨w.heap.size,0,none⟩=some (.slice none 0 0):=(hb5.cell (p:=⟨w.heap.size,0,none⟩) (by simp;omega)).trans ((hal.cell (p:=⟨w.heap.size,0,none⟩) hs3').trans kr3);have fr5:w5.frozen? ⟨w.heap.size,0,none⟩=false:=(hb5.frozen (p:=⟨w.heap.size,0,none⟩) (by simp;omega)).trans ((hal.frozen (p:=⟨w.heap.size,0,none⟩) hs3').trans fr3);have kx5:w5.cell? ⟨w3.heap.size,0,none⟩=some (.slice (some ⟨gn,0,none⟩) ns.length cn):=(hb5.cell (p:=⟨w3.heap.size,0,none⟩) (by simp)).trans (by simp);have HB5:Hid (Below w.heap.size w w5):=(HB3.out.trans (hal.mono HB3.out.size)).trans (hb5.mono (by simp;omega));rw[HV.out];have HN5:Hid (Nodes0 w5 gn ns):=(HN3.out.grown hal).grown hb5;clear hb5 hal HV HSM HN3 HB3 kr3 fr3 p0 p1 p2;by_cases h20:P.tall y<=20
     .rw[decide_eq_true h20]
      have HC3:Hid (Aq t=0):=by rw[HC2.out,if_neg (by omega)];rfl
      clear HC2;go_wp2_with fail;exact bodyPost_ret (v:=.tuple #[.agg #[.slice (some ⟨gn,0,none⟩) ns.length cn],.int .i64 0]) (by rw[results_cell_tmp rfl];simp[go_sem,kr5]) rfl ⟨some ⟨gn,0,none⟩,cn,(by rw[HC3.out,Jc HC3.out HY.out,<-HE4.out];rfl),.inr ⟨gn,rfl,lE HGN,by rw[Jc HC3.out HY.out,<-HE4.out];exact Nodes0.setCell (a:=⟨w.heap.size,0,none⟩) HN5 (by show gn≠w.heap.size;have:=HGN.out;omega) _⟩,(by have:=HB5.out;go_grown)⟩
     .rw[decide_eq_false h20]
      have HC3:Hid (Aq t=3):=by rw[HC2.out,if_pos (by omega)];rfl
      clear HC2;go_wp2_with fail;exact bodyPost_ret (v:=.tuple #[.agg #[.slice none 0 0],.int .i64 3]) (by rw[results_cell_tmp rfl];simp[go_sem,kr5]) rfl ⟨none,0,(by rw[HC3.out,Dw HC3.out (by omega)];rfl),.inl ⟨Dw HC3 (by omega),rfl⟩,(by have:=HB5.out;go_grown)⟩
theorem Pv(t:BA)(w:World)(hm:t.size<=maxLen) :
  Calls prog 67 #[.string t] w (Rt (.bool (decide (Aq t=0))) w):=by
 go_enter func67,ntmps67;go_wp2_with fail;refine(Zg t _ hm).mono ?_;rintro e w1⟨a,c,rfl,_,hb⟩;have HB:=iH hb;have hz:=hb.size;clear hb
 go_wp2
 go_ret;exact⟨Ab (by rw[Bool.eq_iff_iff];simp),by have:=HB.out;go_grown⟩
end Go.Proofs.YtpidfnfilnkhkaaGreat
