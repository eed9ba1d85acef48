import Derived.Test.YtpeajnkkdioflaaGreatJ31
set_option maxHeartbeats 8000000
set_option maxRecDepth 100000
namespace Go.Proofs.YtpeajnkkdioflaaGreat
open Go.RowKit
def cL (ns:List P.Nd):Bool:=match P.kidsOf ns with | some (_,[_])=>true | _=>false
def Ll (len:Nat) (n:P.Nd):Bool:=!(decide (0≤n.kind∧n.kind≤5) && decide (n.kids=P.arity n.kind) && !(decide (n.kind=0) && decide (1<len)))
def Pn (n:P.Nd):Bool:=!((if n.kind=1∨n.kind=2 then P.nameOk n.name else decide (n.name.size=0)) && (if n.kind=2 then P.nameOk n.value else decide (n.value.size=0)))
theorem Cm (len:Nat) (n:P.Nd):P.nodeOk len n=(!Ll len n && !Pn n):=by
 unfold P.nodeOk Ll Pn;simp only [Bool.not_not,Bool.and_assoc]
theorem Ea {ns:List P.Nd} {k:Nat} {n:P.Nd} (hn:ns[k]?=some n) (h:P.nodeOk ns.length n=false):P.treeOk ns=false:=by
 cases e:P.treeOk ns with
 | false=>rfl
 | true =>
  simp only [P.treeOk,Bool.and_eq_true,List.all_eq_true] at e;rw [e.2 n (List.mem_of_getElem? hn)] at h;cases h
theorem Og {ns:List P.Nd} {k:Nat} {n:P.Nd} (h:∀ j m,j<k→ns[j]?=some m→P.nodeOk ns.length m=true) (hn:ns[k]?=some n) (ho:P.nodeOk ns.length n=true) :
  ∀ j m,j<k+1→ns[j]?=some m→P.nodeOk ns.length m=true:=by
 intro j m hj hm;by_cases e:j=k
 ·subst e
  rw [hn] at hm;cases hm
  exact ho
 ·exact h j m (by omega) hm
theorem Ga (ns:List P.Nd):P.treeOk ns=(decide (ns.length≤400) && cL ns && ns.all (P.nodeOk ns.length)):=rfl
theorem Rp (ns:List P.Nd) (g cn:Nat) (w:World) (hN:Nodes0 w g ns) (hlen:ns.length≤400) :
  Calls Tryz.prog 144 #[.agg #[.slice (some ⟨g,0,none⟩) ns.length cn]] w fun e w'=>∃ v,e=.returned (.tuple #[v,.bool (cL ns)])∧Below w.heap.size w w':=by
 refine (Uq ns g cn w hN hlen).mono ?_;rintro e w' ⟨hb,h⟩;unfold cL
 cases hk:P.kidsOf ns with
 | none =>
  rw [hk] at h;obtain ⟨v,rfl⟩:=h;exact ⟨v,rfl,hb⟩
 | some p =>
  obtain ⟨out,st⟩:=p;rw [hk] at h;obtain ⟨go,co,rfl,_,_⟩:=h
  match st with
  | []=>exact ⟨_,rfl,hb⟩
  | [_]=>exact ⟨_,rfl,hb⟩
  | _::_::r=>exact ⟨.slice (some ⟨go,0,none⟩) ns.length co,by simp,hb⟩
def Mo (b b0 κ:Nat) (kids:Int) (g len cn:Nat) (w:World):Prop :=
 w.cell? ⟨b,0,none⟩=some (.int .i64 (κ:Int))∧w.cell? ⟨b,3,none⟩=some (.int .i64 kids)∧w.cell? ⟨b0,0,none⟩=some (.slice (some ⟨g,0,none⟩) len cn)
theorem Ib {b b0 κ:Nat} {kids:Int} {g len cn:Nat} {w:World} {o:Obj} (h:Mo b b0 κ kids g len cn w.drew):Mo b b0 κ kids g len cn (w.alloc o).drew:=by
 obtain ⟨h1,h2,h3⟩:=h;have key:∀ (x j:Nat) (v:Value),w.drew.cell? ⟨x,j,none⟩=some v→(w.alloc o).drew.cell? ⟨x,j,none⟩=some v:=by
  intro x j v hv;have hv':w.cell? ⟨x,j,none⟩=some v:=by simpa using hv
  have:=(((Below.refl w.heap.size w).alloc nL o).cell (p:=⟨x,j,none⟩) (block_lt_of_cell hv')).trans hv';simpa using this
 exact ⟨key _ _ _ h1,key _ _ _ h2,key _ _ _ h3⟩
theorem mI (W:World) (κ:Nat) (h:κ≤5):((W.alloc (.cells #[.int .i64 0,.int .i64 0,.int .i64 0,.int .i64 1,.int .i64 2,.int .i64 2] 3)).drew).cell? ⟨W.heap.size,κ,none⟩=some (.int .i64 (P.arity (κ:Int))):=by
 match κ,h with
 | 0,_=>simp [P.arity]
 | 1,_=>simp [P.arity]
 | 2,_=>simp [P.arity]
 | 3,_=>simp [P.arity]
 | 4,_=>simp [P.arity]
 | 5,_=>simp [P.arity]
theorem Qr (ns:List P.Nd) (g cn:Nat) (w:World) (hN:Nodes0 w g ns) (hsm:Vt ns) :
  Calls Tryz.prog 143 #[.agg #[.slice (some ⟨g,0,none⟩) ns.length cn]] w fun e w'=>e=.returned (.bool (P.treeOk ns))∧Below w.heap.size w w':=by
 have HN:Hid (Nodes0 w g ns):=hN;have HS:Hid (Vt ns):=hsm;have hlm:=hsm.1;clear hN hsm;by_cases hlen:400<ns.length
 ·have HE:Hid (P.treeOk ns=false):=by
   show _=_
   rw [Ga,decide_eq_false (by omega)];rfl
  go_enter Tryz.func143,Tryz.ntmps143;go_wp2_with fail;go_ret;exact ⟨by rw [HE.out];rfl,(Below.refl _ _).alloc nL _⟩
 have hlen':ns.length≤400:=by omega
 cases hk:cL ns with
 | false =>
  have HE:Hid (P.treeOk ns=false):=by
   show _=_
   rw [Ga,hk];simp
  have HK:Hid (cL ns=false):=hk;clear hk;go_enter Tryz.func143,Tryz.ntmps143;go_wp2_with fail;refine (Rp ns g cn _ (HN.out.grown (by go_grown)) hlen').mono ?_;rintro e w1 ⟨v,rfl,hb⟩;rw [HK.out];go_wp2_with fail;go_ret;exact ⟨by rw [HE.out];rfl,((Below.refl _ w).alloc nL _).trans (hb.mono (by simp))⟩
 | true =>
  have HK:Hid (cL ns=true):=hk;clear hk;go_enter Tryz.func143,Tryz.ntmps143;go_wp2_with fail;refine (Rp ns g cn _ (HN.out.grown (by go_grown)) hlen').mono ?_;rintro e w1 ⟨v,rfl,hb⟩;rw [HK.out];have hB1:Below w.heap.size w w1:=((Below.refl _ w).alloc nL _).trans (hb.mono (by simp));have hc1:w1.cell? ⟨w.heap.size,0,none⟩=some (.slice (some ⟨g,0,none⟩) ns.length cn):=(hb.cell (p:=⟨w.heap.size,0,none⟩) (by simp)).trans (by simp);have hz1:w.heap.size<w1.heap.size:=by have:=hb.size;simp at this;omega
  have HN1:Hid (Nodes0 w1 g ns):=HN.out.grown hB1;clear hb;go_wp2_with fail;go_loopw [5] (fun i wr=>∃ (k:Nat),k≤ns.length∧i=.int .i64 k∧Hid (∀ j n,j<k→ns[j]?=some n→P.nodeOk ns.length n=true)∧Below w1.heap.size w1 wr) (fun i _=>ns.length - (intOf i).toNat)
  case atStart=>exact ⟨0,Nat.zero_le _,rfl,fun j n h=>by omega,Below.refl _ _⟩
  case round =>
   obtain ⟨k,hk,rfl,hall,hbel⟩:=hrel;have cx:wr.cell? ⟨w.heap.size,0,none⟩=some (.slice (some ⟨g,0,none⟩) ns.length cn):=(hbel.cell (p:=⟨w.heap.size,0,none⟩) hz1).trans hc1;by_cases hlt:k<ns.length
   ·obtain ⟨n,hn⟩:∃ n,ns[k]?=some n:=⟨ns[k],List.getElem?_eq_getElem hlt⟩
    obtain ⟨r0,r1,r2,r3⟩:=(HN1.out.grown hbel).2 k n hn;have HKn:Hid (ns[k]?=some n):=hn;have hsz:=HS.out.2 n (List.mem_of_getElem? hn);obtain ⟨hs1,hs2⟩:=hsz;have hbs:=hbel.size;clear hn;go_upto_region 10 with fail;generalize hW:wr.alloc (.cells #[.int .i64 n.kind,.string n.name,.string n.value,.int .i64 n.kids] 181)=W;have hz:W.heap.size=wr.heap.size+1:=by rw [← hW];simp
    have q0:W.cell? ⟨wr.heap.size,0,none⟩=some (.int .i64 n.kind):=by rw [← hW];simp
    have q1:W.cell? ⟨wr.heap.size,1,none⟩=some (.string n.name):=by rw [← hW];simp
    have q2:W.cell? ⟨wr.heap.size,2,none⟩=some (.string n.value):=by rw [← hW];simp
    have q3:W.cell? ⟨wr.heap.size,3,none⟩=some (.int .i64 n.kids):=by rw [← hW];simp
    have hbW:Below w1.heap.size w1 W:=by rw [← hW];exact hbel.alloc hbs _
    have cW:W.cell? ⟨w.heap.size,0,none⟩=some (.slice (some ⟨g,0,none⟩) ns.length cn):=(hbW.cell (p:=⟨w.heap.size,0,none⟩) hz1).trans hc1;clear hW r0 r1 r2 r3 cx
    go_cut [55] (fun c wx=>c=.bool (Ll ns.length n)∧Below W.heap.size W wx)
    case first =>
     by_cases ho:n.kind<0∨5<n.kind
     ·have cI:∀ d os,Calls Tryz.prog 43 #[.int .i64 n.kind,.int .i64 0,.int .i64 5] (Sort.grow (redrawn W d) os) fun e w''=>e=.returned (.bool false)∧∃ p:Regrown,w''=Sort.grow (redrawn W p.d) p.os:=fun d os=>by
       refine (Dr _ _ _ _).mono ?_;rintro e w' ⟨rfl,rfl⟩;exact ⟨by rw [inB,decide_eq_false (by omega)],⟨d,os⟩,rfl⟩
      have l0:=cell_regrown q0;have HB:Hid (Ll ns.length n=true):=by
       show _=_
       unfold Ll;rw [decide_eq_false (by omega)];rfl
      refine wp_region_quiet_below (by kernel_rfl) (by kernel_rfl) ?_
      repeat (go_big_quiet_step (exact cI _ _))
      refine wpQuiet_nil ?_;intro w5 hw';obtain ⟨⟨dq,osq⟩,hw''⟩:=hw';have hB:=below_regrown W dq osq;simp only [] at hw'';rw [← hw''] at hB;clear hw'' cI l0;go_wp2_with fail;go_meet;exact ⟨by rw [HB.out],hB⟩
     ·obtain ⟨κ,hκ⟩:=Int.eq_ofNat_of_zero_le (show 0≤n.kind by omega)
      have hκ5:κ≤5:=by omega
      have hin:inB (κ:Int) 0 5=true:=by unfold inB;simp;omega
      rw [hκ] at q0;have hrow:=mI W κ hκ5;rw [hz] at hrow;have i0:(0:Int)≤(κ:Int):=by omega
      have i1:(κ:Int)<6:=by omega
      have HKK:Hid (n.kind=(κ:Int)):=hκ;have hBr:Below W.heap.size W ((W.alloc (.cells #[.int .i64 0,.int .i64 0,.int .i64 0,.int .i64 1,.int .i64 2,.int .i64 2] 3)).drew):=below_drewN ((Below.refl W.heap.size W).alloc nL _) 1;have HBR:Hid (Below W.heap.size W ((W.alloc (.cells #[.int .i64 0,.int .i64 0,.int .i64 0,.int .i64 1,.int .i64 2,.int .i64 2] 3)).drew)):=hBr;clear hκ ho hBr;generalize hA:P.arity (κ:Int)=A at hrow;have HA:Hid (P.arity (κ:Int)=A):=hA;clear hA;by_cases hkk:n.kids=A
      ·rw [hkk] at q3
       by_cases hκ0:κ=0
       ·have e0:((κ:Int) == 0)=true:=by rw [beq_iff_eq];omega
        by_cases hl1:1<ns.length
        ·have HB:Hid (Ll ns.length n=true):=by show _=_;simp [Ll,HKK.out,hκ0,hl1]
         have l1:(1:Int)<(ns.length:Int):=by omega
         clear hκ0 hkk hl1;refine wp_region_held_drew (S:=Mo wr.heap.size w.heap.size κ A g ns.length cn) (by kernel_rfl) ⟨by simpa using q0,by simpa using q3,by simpa using cW⟩ (fun hS=>?_);refine x0 0 31 (.pointer (some ⟨wr.heap.size,0,none⟩)) rfl hS ?_;simp only [pA,pB,pC,pD];refine x0 1 32 (.int .i64 (κ:Int)) rfl hS ?_;simp only [pA,pB,pC,pD];refine rd1 2 ⟨some 33,_,_,_,_,none⟩ rfl (fun K hK=>?_);go_simp;refine (Dr _ _ _ _).mono ?_;rintro e w' ⟨rfl,rfl⟩;rw [hin];refine hK.out _ _ hS (fun hS=>?_);clear hK K;refine x0 3 34 (.bool false) rfl hS ?_;simp only [pA,pB,pC,pD];refine x0 4 35 (.bool false) rfl hS ?_;simp only [pA,pB,pC,pD];refine x0 5 36 (.pointer (some ⟨wr.heap.size,3,none⟩)) rfl hS ?_;simp only [pA,pB,pC,pD];refine x0 6 37 (.int .i64 A) rfl hS ?_;simp only [pA,pB,pC,pD];refine x0 8 39 (.pointer (some ⟨wr.heap.size,0,none⟩)) rfl hS ?_;simp only [pA,pB,pC,pD];refine x0 9 40 (.int .i64 (κ:Int)) rfl hS ?_;simp only [pA,pB,pC,pD];refine rd1 7 ⟨some 38,_,_,_,_,some (4,false)⟩ rfl (fun K hK=>?_);go_simp;refine hK.out _ _ (Ib hS) (fun hS=>?_);clear hK K;refine x0 10 41 (.pointer (some ⟨wr.heap.size+1,κ,none⟩)) rfl hS ?_;simp only [pA,pB,pC,pD];refine rd1 11 ⟨some 42,_,_,_,_,some (4,false)⟩ rfl (fun K hK=>?_);go_simp;refine hK.out _ _ hS (fun hS=>?_);clear hK K;refine x0 12 43 (.bool false) rfl hS ?_;simp only [pA,pB,pC,pD];refine x0 13 44 (.bool false) rfl hS ?_;simp only [pA,pB,pC,pD];refine x0 14 45 (.bool false) rfl hS ?_;simp only [pA,pB,pC,pD];refine x0 15 46 (.pointer (some ⟨wr.heap.size,0,none⟩)) rfl hS ?_;simp only [pA,pB,pC,pD];refine x0 16 47 (.int .i64 (κ:Int)) rfl hS ?_;simp only [pA,pB,pC,pD];refine x0 17 48 (.bool true) rfl hS ?_;simp only [pA,pB,pC,pD];refine x0 18 49 (.bool true) rfl hS ?_;simp only [pA,pB,pC,pD];refine x0 19 50 (.pointer (some ⟨w.heap.size,0,none⟩)) rfl hS ?_;simp only [pA,pB,pC,pD];refine x0 20 51 (.slice (some ⟨g,0,none⟩) ns.length cn) rfl hS ?_;simp only [pA,pB,pC,pD];refine x0 21 52 (.int .i64 (ns.length:Int)) rfl hS ?_;simp only [pA,pB,pC,pD];refine x0 22 53 (.bool true) rfl hS ?_;simp only [pA,pB,pC,pD];refine x0 23 54 (.bool true) rfl hS ?_;simp only [pA,pB,pC,pD];refine x0 24 55 (.bool true) rfl hS ?_;simp only [pA,pB,pC,pD];refine td ?_;go_wp2_with fail;go_meet;exact ⟨by rw [HB.out],HBR.out⟩
        ·have HB:Hid (Ll ns.length n=false):=by show _=_;simp [Ll,HKK.out,hkk,← HA.out,hl1];omega
         have l1:¬ (1:Int)<(ns.length:Int):=by omega
         clear hκ0 hkk hl1;refine wp_region_held_drew (S:=Mo wr.heap.size w.heap.size κ A g ns.length cn) (by kernel_rfl) ⟨by simpa using q0,by simpa using q3,by simpa using cW⟩ (fun hS=>?_);refine x0 0 31 (.pointer (some ⟨wr.heap.size,0,none⟩)) rfl hS ?_;simp only [pA,pB,pC,pD];refine x0 1 32 (.int .i64 (κ:Int)) rfl hS ?_;simp only [pA,pB,pC,pD];refine rd1 2 ⟨some 33,_,_,_,_,none⟩ rfl (fun K hK=>?_);go_simp;refine (Dr _ _ _ _).mono ?_;rintro e w' ⟨rfl,rfl⟩;rw [hin];refine hK.out _ _ hS (fun hS=>?_);clear hK K;refine x0 3 34 (.bool false) rfl hS ?_;simp only [pA,pB,pC,pD];refine x0 4 35 (.bool false) rfl hS ?_;simp only [pA,pB,pC,pD];refine x0 5 36 (.pointer (some ⟨wr.heap.size,3,none⟩)) rfl hS ?_;simp only [pA,pB,pC,pD];refine x0 6 37 (.int .i64 A) rfl hS ?_;simp only [pA,pB,pC,pD];refine x0 8 39 (.pointer (some ⟨wr.heap.size,0,none⟩)) rfl hS ?_;simp only [pA,pB,pC,pD];refine x0 9 40 (.int .i64 (κ:Int)) rfl hS ?_;simp only [pA,pB,pC,pD];refine rd1 7 ⟨some 38,_,_,_,_,some (4,false)⟩ rfl (fun K hK=>?_);go_simp;refine hK.out _ _ (Ib hS) (fun hS=>?_);clear hK K;refine x0 10 41 (.pointer (some ⟨wr.heap.size+1,κ,none⟩)) rfl hS ?_;simp only [pA,pB,pC,pD];refine rd1 11 ⟨some 42,_,_,_,_,some (4,false)⟩ rfl (fun K hK=>?_);go_simp;refine hK.out _ _ hS (fun hS=>?_);clear hK K;refine x0 12 43 (.bool false) rfl hS ?_;simp only [pA,pB,pC,pD];refine x0 13 44 (.bool false) rfl hS ?_;simp only [pA,pB,pC,pD];refine x0 14 45 (.bool false) rfl hS ?_;simp only [pA,pB,pC,pD];refine x0 15 46 (.pointer (some ⟨wr.heap.size,0,none⟩)) rfl hS ?_;simp only [pA,pB,pC,pD];refine x0 16 47 (.int .i64 (κ:Int)) rfl hS ?_;simp only [pA,pB,pC,pD];refine x0 17 48 (.bool true) rfl hS ?_;simp only [pA,pB,pC,pD];refine x0 18 49 (.bool true) rfl hS ?_;simp only [pA,pB,pC,pD];refine x0 19 50 (.pointer (some ⟨w.heap.size,0,none⟩)) rfl hS ?_;simp only [pA,pB,pC,pD];refine x0 20 51 (.slice (some ⟨g,0,none⟩) ns.length cn) rfl hS ?_;simp only [pA,pB,pC,pD];refine x0 21 52 (.int .i64 (ns.length:Int)) rfl hS ?_;simp only [pA,pB,pC,pD];refine x0 22 53 (.bool false) rfl hS ?_;simp only [pA,pB,pC,pD];refine x0 23 54 (.bool false) rfl hS ?_;simp only [pA,pB,pC,pD];refine x0 24 55 (.bool false) rfl hS ?_;simp only [pA,pB,pC,pD];refine td ?_;go_wp2_with fail;go_meet;exact ⟨by rw [HB.out],HBR.out⟩
       ·have HB:Hid (Ll ns.length n=false):=by show _=_;simp [Ll,HKK.out,hkk,← HA.out];omega
        have e0:((κ:Int) == 0)=false:=by rw [beq_eq_false_iff_ne];omega
        clear hκ0 hkk;refine wp_region_held_drew (S:=Mo wr.heap.size w.heap.size κ A g ns.length cn) (by kernel_rfl) ⟨by simpa using q0,by simpa using q3,by simpa using cW⟩ (fun hS=>?_);refine x0 0 31 (.pointer (some ⟨wr.heap.size,0,none⟩)) rfl hS ?_;simp only [pA,pB,pC,pD];refine x0 1 32 (.int .i64 (κ:Int)) rfl hS ?_;simp only [pA,pB,pC,pD];refine rd1 2 ⟨some 33,_,_,_,_,none⟩ rfl (fun K hK=>?_);go_simp;refine (Dr _ _ _ _).mono ?_;rintro e w' ⟨rfl,rfl⟩;rw [hin];refine hK.out _ _ hS (fun hS=>?_);clear hK K;refine x0 3 34 (.bool false) rfl hS ?_;simp only [pA,pB,pC,pD];refine x0 4 35 (.bool false) rfl hS ?_;simp only [pA,pB,pC,pD];refine x0 5 36 (.pointer (some ⟨wr.heap.size,3,none⟩)) rfl hS ?_;simp only [pA,pB,pC,pD];refine x0 6 37 (.int .i64 A) rfl hS ?_;simp only [pA,pB,pC,pD];refine x0 8 39 (.pointer (some ⟨wr.heap.size,0,none⟩)) rfl hS ?_;simp only [pA,pB,pC,pD];refine x0 9 40 (.int .i64 (κ:Int)) rfl hS ?_;simp only [pA,pB,pC,pD];refine rd1 7 ⟨some 38,_,_,_,_,some (4,false)⟩ rfl (fun K hK=>?_);go_simp;refine hK.out _ _ (Ib hS) (fun hS=>?_);clear hK K;refine x0 10 41 (.pointer (some ⟨wr.heap.size+1,κ,none⟩)) rfl hS ?_;simp only [pA,pB,pC,pD];refine rd1 11 ⟨some 42,_,_,_,_,some (4,false)⟩ rfl (fun K hK=>?_);go_simp;refine hK.out _ _ hS (fun hS=>?_);clear hK K;refine x0 12 43 (.bool false) rfl hS ?_;simp only [pA,pB,pC,pD];refine x0 13 44 (.bool false) rfl hS ?_;simp only [pA,pB,pC,pD];refine x0 14 45 (.bool false) rfl hS ?_;simp only [pA,pB,pC,pD];refine x0 15 46 (.pointer (some ⟨wr.heap.size,0,none⟩)) rfl hS ?_;simp only [pA,pB,pC,pD];refine x0 16 47 (.int .i64 (κ:Int)) rfl hS ?_;simp only [pA,pB,pC,pD];refine x0 17 48 (.bool false) rfl hS ?_;simp only [pA,pB,pC,pD];refine x0 18 49 (.bool false) rfl hS ?_;simp only [pA,pB,pC,pD];refine ts 19 50 rfl hS ?_;simp only [pA,pB,pC,pD];refine ts 20 51 rfl hS ?_;simp only [pA,pB,pC,pD];refine ts 21 52 rfl hS ?_;simp only [pA,pB,pC,pD];refine ts 22 53 rfl hS ?_;simp only [pA,pB,pC,pD];refine x0 23 54 (.bool false) rfl hS ?_;simp only [pA,pB,pC,pD];refine x0 24 55 (.bool false) rfl hS ?_;simp only [pA,pB,pC,pD];refine td ?_;go_wp2_with fail;go_meet;exact ⟨by rw [HB.out],HBR.out⟩
      ·have HB:Hid (Ll ns.length n=true):=by show _=_;simp [Ll,HKK.out,HA.out,hkk]
       have e1:(n.kids == A)=false:=by rw [beq_eq_false_iff_ne];exact hkk
       refine wp_region_held_drew (S:=Mo wr.heap.size w.heap.size κ n.kids g ns.length cn) (by kernel_rfl) ⟨by simpa using q0,by simpa using q3,by simpa using cW⟩ (fun hS=>?_);refine x0 0 31 (.pointer (some ⟨wr.heap.size,0,none⟩)) rfl hS ?_;simp only [pA,pB,pC,pD];refine x0 1 32 (.int .i64 (κ:Int)) rfl hS ?_;simp only [pA,pB,pC,pD];refine rd1 2 ⟨some 33,_,_,_,_,none⟩ rfl (fun K hK=>?_);go_simp;refine (Dr _ _ _ _).mono ?_;rintro e w' ⟨rfl,rfl⟩;rw [hin];refine hK.out _ _ hS (fun hS=>?_);clear hK K;refine x0 3 34 (.bool false) rfl hS ?_;simp only [pA,pB,pC,pD];refine x0 4 35 (.bool false) rfl hS ?_;simp only [pA,pB,pC,pD];refine x0 5 36 (.pointer (some ⟨wr.heap.size,3,none⟩)) rfl hS ?_;simp only [pA,pB,pC,pD];refine x0 6 37 (.int .i64 n.kids) rfl hS ?_;simp only [pA,pB,pC,pD];refine x0 8 39 (.pointer (some ⟨wr.heap.size,0,none⟩)) rfl hS ?_;simp only [pA,pB,pC,pD];refine x0 9 40 (.int .i64 (κ:Int)) rfl hS ?_;simp only [pA,pB,pC,pD];refine rd1 7 ⟨some 38,_,_,_,_,some (4,false)⟩ rfl (fun K hK=>?_);go_simp;refine hK.out _ _ (Ib hS) (fun hS=>?_);clear hK K;refine x0 10 41 (.pointer (some ⟨wr.heap.size+1,κ,none⟩)) rfl hS ?_;simp only [pA,pB,pC,pD];refine rd1 11 ⟨some 42,_,_,_,_,some (4,false)⟩ rfl (fun K hK=>?_);go_simp;refine hK.out _ _ hS (fun hS=>?_);clear hK K;refine x0 12 43 (.bool true) rfl hS ?_;simp only [pA,pB,pC,pD];refine x0 13 44 (.bool true) rfl hS ?_;simp only [pA,pB,pC,pD];refine x0 14 45 (.bool true) rfl hS ?_;simp only [pA,pB,pC,pD];refine ts 15 46 rfl hS ?_;simp only [pA,pB,pC,pD];refine ts 16 47 rfl hS ?_;simp only [pA,pB,pC,pD];refine ts 17 48 rfl hS ?_;simp only [pA,pB,pC,pD];refine ts 18 49 rfl hS ?_;simp only [pA,pB,pC,pD];refine ts 19 50 rfl hS ?_;simp only [pA,pB,pC,pD];refine ts 20 51 rfl hS ?_;simp only [pA,pB,pC,pD];refine ts 21 52 rfl hS ?_;simp only [pA,pB,pC,pD];refine ts 22 53 rfl hS ?_;simp only [pA,pB,pC,pD];refine ts 23 54 rfl hS ?_;simp only [pA,pB,pC,pD];refine x0 24 55 (.bool true) rfl hS ?_;simp only [pA,pB,pC,pD];refine td ?_;go_wp2_with fail;go_meet;exact ⟨by rw [HB.out],HBR.out⟩
    case rest =>
     obtain ⟨rfl,hbc⟩:=hcut;have p0:wc.cell? ⟨wr.heap.size,0,none⟩=some (.int .i64 n.kind):=(hbc.cell (p:=⟨wr.heap.size,0,none⟩) (by show wr.heap.size<W.heap.size;omega)).trans q0;have p1:wc.cell? ⟨wr.heap.size,1,none⟩=some (.string n.name):=(hbc.cell (p:=⟨wr.heap.size,1,none⟩) (by show wr.heap.size<W.heap.size;omega)).trans q1;have p2:wc.cell? ⟨wr.heap.size,2,none⟩=some (.string n.value):=(hbc.cell (p:=⟨wr.heap.size,2,none⟩) (by show wr.heap.size<W.heap.size;omega)).trans q2;have HW:Hid (Below w1.heap.size w1 wc):=hbW.trans (hbc.mono (by omega));have HG:Hid (Below w.heap.size w wc):=hB1.trans (HW.out.mono (by omega));have hn1:n.name.size≤maxLen:=by unfold maxLen;omega
     have hn2:n.value.size≤maxLen:=by unfold maxLen;omega
     clear q0 q1 q2 q3 cW hbW hbc hs1 hs2
     cases hb1:Ll ns.length n with
     | true =>
      have HE:Hid (P.treeOk ns=false):=Ea HKn.out (by rw [Cm,hb1];rfl);clear hb1;go_wp2_with fail;go_ret;exact ⟨by rw [HE.out];rfl,HG.out⟩
     | false =>
      rcases (show n.kind=1∨n.kind=2∨(¬ n.kind=1∧¬ n.kind=2) by omega) with hk1 | hk2 | ⟨hk1,hk2⟩
      ·rw [hk1] at p0
       cases hm:P.nameOk n.name with
       | false =>
        ·have HM:Hid (P.nameOk n.name=false):=hm
         have HE:Hid (P.treeOk ns=false):=Ea HKn.out (by rw [Cm,hb1];simp [Pn,hk1,hm]);clear hb1;clear hk1 hm;go_wp2_with fail;refine (Be _ _ (by assumption)).mono ?_;rintro e w' ⟨rfl,rfl⟩;rw [HM.out];go_wp2_with fail;go_ret;exact ⟨by rw [HE.out];rfl,HG.out⟩
       | true =>
        by_cases hv:n.value.size=0
        ·have HM:Hid (P.nameOk n.name=true):=hm
         have b3:=Gu hv;have HO:Hid (P.nodeOk ns.length n=true):=by show _=_;rw [Cm,hb1];simp [Pn,hk1,hm,hv]
         clear hb1;clear hk1 hm;go_wp2_with fail;refine (Be _ _ (by assumption)).mono ?_;rintro e w' ⟨rfl,rfl⟩;rw [HM.out];go_wp2_with fail;go_roundw
         case rel=>exact ⟨k+1,by omega,by go_num,Og hall.out HKn.out HO.out,HW.out⟩
         case measure=>simp [intOf];omega
        ·have HM:Hid (P.nameOk n.name=true):=hm
         have b3:=Gm hv;have b4:=Fa hv;have HE:Hid (P.treeOk ns=false):=Ea HKn.out (by rw [Cm,hb1];simp [Pn,hk1,hm,hv]);clear hb1;clear hk1 hm;go_wp2_with fail;refine (Be _ _ (by assumption)).mono ?_;rintro e w' ⟨rfl,rfl⟩;rw [HM.out];go_wp2_with fail;go_ret;exact ⟨by rw [HE.out];rfl,HG.out⟩
      ·rw [hk2] at p0
       cases hm:P.nameOk n.name with
       | false =>
        ·have HM:Hid (P.nameOk n.name=false):=hm
         have HE:Hid (P.treeOk ns=false):=Ea HKn.out (by rw [Cm,hb1];simp [Pn,hk2,hm]);clear hb1;clear hk2 hm;go_wp2_with fail;refine (Be _ _ (by assumption)).mono ?_;rintro e w' ⟨rfl,rfl⟩;rw [HM.out];go_wp2_with fail;go_ret;exact ⟨by rw [HE.out];rfl,HG.out⟩
       | true =>
        cases hv:P.nameOk n.value with
        | false =>
         ·have HM:Hid (P.nameOk n.name=true):=hm
          have HV:Hid (P.nameOk n.value=false):=hv;have HE:Hid (P.treeOk ns=false):=Ea HKn.out (by rw [Cm,hb1];simp [Pn,hk2,hm,hv]);clear hb1;clear hk2 hm hv;go_wp2_with fail;refine (Be _ _ (by assumption)).mono ?_;rintro e w' ⟨rfl,rfl⟩;rw [HM.out];go_wp2_with fail;refine (Be _ _ (by assumption)).mono ?_;rintro e w' ⟨rfl,rfl⟩;rw [HV.out];go_wp2_with fail;go_ret;exact ⟨by rw [HE.out];rfl,HG.out⟩
        | true =>
         ·have HM:Hid (P.nameOk n.name=true):=hm
          have HV:Hid (P.nameOk n.value=true):=hv;have HO:Hid (P.nodeOk ns.length n=true):=by show _=_;rw [Cm,hb1];simp [Pn,hk2,hm,hv]
          clear hb1;clear hk2 hm hv;go_wp2_with fail;refine (Be _ _ (by assumption)).mono ?_;rintro e w' ⟨rfl,rfl⟩;rw [HM.out];go_wp2_with fail;refine (Be _ _ (by assumption)).mono ?_;rintro e w' ⟨rfl,rfl⟩;rw [HV.out];go_wp2_with fail;go_roundw
          case rel=>exact ⟨k+1,by omega,by go_num,Og hall.out HKn.out HO.out,HW.out⟩
          case measure=>simp [intOf];omega
      ·by_cases hm:n.name.size=0
       ·by_cases hv:n.value.size=0
        ·have b1:=Gu hm
         have b3:=Gu hv;have HO:Hid (P.nodeOk ns.length n=true):=by show _=_;rw [Cm,hb1];simp [Pn,hk1,hk2,hm,hv]
         clear hb1;go_wp2_with fail;go_roundw
         case rel=>exact ⟨k+1,by omega,by go_num,Og hall.out HKn.out HO.out,HW.out⟩
         case measure=>simp [intOf];omega
        ·have b1:=Gu hm
         have b3:=Gm hv;have b4:=Fa hv;have HE:Hid (P.treeOk ns=false):=Ea HKn.out (by rw [Cm,hb1];simp [Pn,hk1,hk2,hm,hv]);clear hb1;go_wp2_with fail;go_ret;exact ⟨by rw [HE.out];rfl,HG.out⟩
       ·have b1:=Gm hm
        have b2:=Fa hm;have HE:Hid (P.treeOk ns=false):=Ea HKn.out (by rw [Cm,hb1];simp [Pn,hk1,hk2,hm]);clear hb1;go_wp2_with fail;go_ret;exact ⟨by rw [HE.out];rfl,HG.out⟩
   ·have HE:Hid (P.treeOk ns=true):=by
     show _=_
     rw [Ga,HK.out,decide_eq_true hlen',Bool.true_and,Bool.true_and,List.all_eq_true];intro n hn;obtain ⟨j,hj⟩:=List.getElem?_of_mem hn;exact hall.out j n (by have:=P.getElem?_lt hj;omega) hj
    go_wp2_with fail;go_ret;exact ⟨by rw [HE.out];rfl,hB1.trans (hbel.mono (by have:=hB1.size;omega))⟩
end Go.Proofs.YtpeajnkkdioflaaGreat
