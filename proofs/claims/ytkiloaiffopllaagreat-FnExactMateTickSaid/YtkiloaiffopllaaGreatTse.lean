import Derived.Test.YtkiloaiffopllaaGreatTsl
set_option maxHeartbeats 8000000
set_option maxRecDepth 100000
namespace Go.Proofs.YtkiloaiffopllaaGreat
open Go.RowKit
theorem Mz (xs:List Aks) (k t:Nat):(An (xs.drop k))[t]?=(An xs)[k*4+t]?:=by
 by_cases h:k≤xs.length
 ·have e:An xs=An (xs.take k)++An (xs.drop k):=by rw [← Ds,List.take_append_drop]
  rw [e,List.getElem?_append_right (by rw [Br,List.length_take];omega),Br,List.length_take]
  congr 1
  omega
 ·rw [List.drop_eq_nil_of_le (by omega),List.getElem?_eq_none (l:=An xs) (by rw [Br];omega)]
  rfl
theorem Ut {α:Type} {P:α→Prop} {xs:List α} {k:Nat} {y:α} (h:∀ z∈xs.take k,P z) (hy:xs[k]?=some y) (hp:P y):∀ z∈xs.take (k+1),P z:=fun z hz=>by
 rw [List.take_add_one,hy] at hz;rcases List.mem_append.1 hz with hz | hz
 ·exact h z hz
 ·rw [show z=y by simpa using hz]
  exact hp
theorem Ze {xs:List Aks} {x:Aks} {k:Nat} (hl:∀ y∈xs.take k,ltN y.hold x.hold=true) (hk:k≤xs.length) (hn:∀ y,xs[k]?=some y→ltN y.hold x.hold=false) (he:∀ y,xs[k]?=some y→y.hold≠x.hold):Az (·.hold) xs x=xs.take k++x::xs.drop k:=by
 by_cases h:k<xs.length
 ·have hy:xs[k]?=some xs[k]:=gE h
  exact Ss hl hy (hn _ hy) (he _ hy)
 ·obtain rfl:k=xs.length:=by omega
  rw [List.drop_length];exact Rg (nm:=fun a:Aks=>a.hold) hl
theorem Um (xs:List Aks) (k t:Nat) {u:Value} (h:(An (xs.take k))[t]?=some u):(An xs)[t]?=some u:=by
 have e:An xs=An (xs.take k)++An (xs.drop k):=by rw [← Ds,List.take_append_drop]
 rw [e,List.getElem?_append_left (Ah h)];exact h
theorem Hv (x:Aks) (xs:List Aks) (b o cap lo:Nat) (w:World) (hin:SliceC AksC 4 lo w (some ⟨b,o,none⟩) xs) (hsm:xs.length≤1000) (hcap:xs.length≤cap) (hz:It xs 20) (hx:x.hold.size≤20∧x.copy.size≤20) :
  Calls Tryz.prog 60 #[.slice (some ⟨b,o,none⟩) xs.length cap,.agg (aaA x)] w fun e w'=>∃ (g q:Nat),e=.returned (.slice (some ⟨g,0,none⟩) (Az (·.hold) xs x).length q)∧SliceC AksC 4 w.heap.size w' (some ⟨g,0,none⟩) (Az (·.hold) xs x)∧(Az (·.hold) xs x).length≤q∧Below w.heap.size w w':=by
 obtain ⟨i0,hi,hz0,hz1,hz2⟩:=info_parts Fe;have HI0:=iH hi;have HIN:=iH hin;have HZ:=iH hz;have HK0:=iH (Blk.alloc w (aaA x) 52);have hB0:=(Below.refl _ w).alloc nL (Obj.cells (aaA x) 52);have hbl:xs≠[]→b<w.heap.size:=fun hne=>by obtain ⟨y,hy⟩:∃ y,xs[0]?=some y:=⟨xs[0]'(by have:=List.length_pos_iff.2 hne;omega),gE _⟩;obtain ⟨b1,o1,e1,_,h1,_⟩:=hin.at hy;cases e1;exact h1
 have HC0:Hid (∀ wy,Below w.heap.size w wy→∀ t u,(An xs)[t]?=some u→wy.cell? ((⟨b,o,none⟩:Addr).add t)=some u):=fun wy hy t u hu=>Hx (HIN.out.below AksC.holds hy nL) t u hu
 clear hi hin hz hbl;go_enter Tryz.func60,Tryz.ntmps60;go_upto_region 2 with fail;generalize w.alloc (Obj.cells (aaA x) 52)=wa at *;go_loopw [5] (fun i wr=>∃ k:Nat,k≤xs.length∧i=.int .i64 k∧Hid (∀ y∈xs.take k,ltN y.hold x.hold=true)∧Hid (Blk w.heap.size (aaA x) 52 wr)∧Below w.heap.size w wr) (fun i _=>xs.length - (intOf i).toNat)
 case atStart=>exact ⟨0,zL,rfl,fun y hy=>by simp at hy,HK0,hB0⟩
 case round =>
  clear HK0 hB0;obtain ⟨k,hk,rfl,HL,HK,hB⟩:=hrel;go_upto_region 2 with fail
  go_cut [20] (fun v wz=>∃ bv:Bool,v=.bool bv∧Hid (bv=true→k<xs.length∧∀ y∈xs.take (k+1),ltN y.hold x.hold=true)∧Hid (bv=false→∀ y,xs[k]?=some y→ltN y.hold x.hold=false)∧Hid (Blk w.heap.size (aaA x) 52 wz)∧Below w.heap.size w wz)
  case first =>
   by_cases hlt:k<xs.length
   case neg =>
    refine wp_region_held_drew (S:=fun wy=>wy=wr.drew) (by kernel_rfl) rfl (fun hS=>?_);refine tz 0 7 (.int .i64 k) rfl hS ?_;simp only [pX];refine tz 1 8 (.slice (some ⟨b,o,none⟩) xs.length cap) rfl hS ?_;simp only [pX];refine tz 2 9 (.int .i64 xs.length) rfl hS ?_;simp only [pX];refine ty 3 ⟨some 10,_,_,_,_,none⟩ (.bool false) rfl (by rfl) ?_ hS ?_
    ·intro wy hy
     clear hy
     (first | (go_simp;done) | (go_simp;omega) | (go_simp;simp;omega))
    simp only [pX];refine tz 4 11 (.bool false) rfl hS ?_;simp only [pX];refine ts 5 12 rfl hS ?_;simp only [pX];refine ts 6 13 rfl hS ?_;simp only [pX];refine ts 7 14 rfl hS ?_;simp only [pX];refine ts 8 15 rfl hS ?_;simp only [pX];refine ts 9 16 rfl hS ?_;simp only [pX];refine ts 10 17 rfl hS ?_;simp only [pX];refine ts 11 18 rfl hS ?_;simp only [pX];refine ts 12 19 rfl hS ?_;simp only [pX];refine tz 13 20 (.bool false) rfl hS ?_;simp only [pX];refine td ?_;clear hS;go_wp2_with fail;go_meet;exact ⟨false,rfl,(fun e=>by cases e),(fun _ y hy=>by have:=Ah hy;omega),HK.out.drew,hB.drew⟩
   obtain ⟨y,hy⟩:=gXe hlt;have q0:wr.cell? ⟨b,o+k*4,none⟩=some (.string y.hold):=by obtain ⟨b1,o1,e1,_,_,h1⟩:=(HIN.out.below AksC.holds hB nL).at hy;cases e1;simpa using h1.1
   have HY:=iH hy;clear hy
   cases hlv:ltN y.hold x.hold with
   | true =>
    refine wp_region_held_drew (S:=fun wy=>wy=wr.drew) (by kernel_rfl) rfl (fun hS=>?_);refine tz 0 7 (.int .i64 k) rfl hS ?_;simp only [pX];refine tz 1 8 (.slice (some ⟨b,o,none⟩) xs.length cap) rfl hS ?_;simp only [pX];refine tz 2 9 (.int .i64 xs.length) rfl hS ?_;simp only [pX];refine ty 3 ⟨some 10,_,_,_,_,none⟩ (.bool true) rfl (by rfl) ?_ hS ?_
    ·intro wy hy
     clear hy
     (first | (go_simp;done) | (go_simp;omega) | (go_simp;simp;omega))
    simp only [pX];refine tz 4 11 (.bool true) rfl hS ?_;simp only [pX];refine tz 5 12 (.slice (some ⟨b,o,none⟩) xs.length cap) rfl hS ?_;simp only [pX];refine tz 6 13 (.int .i64 k) rfl hS ?_;simp only [pX];refine x0 7 14 (.pointer (some ⟨b,o+k*4,none⟩)) rfl hS ?_;simp only [pX];refine tz 8 15 (.pointer (some ⟨b,o+k*4,none⟩)) rfl hS ?_;simp only [pX];refine tl 9 16 (.string y.hold) ⟨b,o+k*4,none⟩ rfl (fun wy hy=>by rw [hy];exact q0) hS ?_;simp only [pX];refine tz 10 17 (.pointer (some ⟨w.heap.size,0,none⟩)) rfl hS ?_;simp only [pX];refine tl 11 18 (.string x.hold) ⟨w.heap.size,0,none⟩ rfl (fun wy hy=>by rw [hy];exact HK.out.cell rfl) hS ?_;simp only [pX];refine ty 12 ⟨some 19,_,_,_,_,some (4,true)⟩ (.bool true) rfl (by rfl) ?_ hS ?_
    ·intro wy hy
     clear hy
     (first | (go_simp;done) | (go_simp;rw [hlv];done) | (go_simp;simp [hlv];done) | (unfold ltN at hlv;go_simp;done) | (unfold ltN at hlv;go_simp;simp [hlv]))
    simp only [pX];refine tz 13 20 (.bool true) rfl hS ?_;simp only [pX];refine td ?_;clear hS;go_wp2_with fail;go_meet;exact ⟨true,rfl,(fun _=>⟨hlt,Ut HL HY hlv⟩),(fun e=>by cases e),HK.out.drew,hB.drew⟩
   | false =>
    refine wp_region_held_drew (S:=fun wy=>wy=wr.drew) (by kernel_rfl) rfl (fun hS=>?_);refine tz 0 7 (.int .i64 k) rfl hS ?_;simp only [pX];refine tz 1 8 (.slice (some ⟨b,o,none⟩) xs.length cap) rfl hS ?_;simp only [pX];refine tz 2 9 (.int .i64 xs.length) rfl hS ?_;simp only [pX];refine ty 3 ⟨some 10,_,_,_,_,none⟩ (.bool true) rfl (by rfl) ?_ hS ?_
    ·intro wy hy
     clear hy
     (first | (go_simp;done) | (go_simp;omega) | (go_simp;simp;omega))
    simp only [pX];refine tz 4 11 (.bool true) rfl hS ?_;simp only [pX];refine tz 5 12 (.slice (some ⟨b,o,none⟩) xs.length cap) rfl hS ?_;simp only [pX];refine tz 6 13 (.int .i64 k) rfl hS ?_;simp only [pX];refine x0 7 14 (.pointer (some ⟨b,o+k*4,none⟩)) rfl hS ?_;simp only [pX];refine tz 8 15 (.pointer (some ⟨b,o+k*4,none⟩)) rfl hS ?_;simp only [pX];refine tl 9 16 (.string y.hold) ⟨b,o+k*4,none⟩ rfl (fun wy hy=>by rw [hy];exact q0) hS ?_;simp only [pX];refine tz 10 17 (.pointer (some ⟨w.heap.size,0,none⟩)) rfl hS ?_;simp only [pX];refine tl 11 18 (.string x.hold) ⟨w.heap.size,0,none⟩ rfl (fun wy hy=>by rw [hy];exact HK.out.cell rfl) hS ?_;simp only [pX];refine ty 12 ⟨some 19,_,_,_,_,some (4,true)⟩ (.bool false) rfl (by rfl) ?_ hS ?_
    ·intro wy hy
     clear hy
     (first | (go_simp;done) | (go_simp;rw [hlv];done) | (go_simp;simp [hlv];done) | (unfold ltN at hlv;go_simp;done) | (unfold ltN at hlv;go_simp;simp [hlv]))
    simp only [pX];refine tz 13 20 (.bool false) rfl hS ?_;simp only [pX];refine td ?_;clear hS;go_wp2_with fail;go_meet;exact ⟨false,rfl,(fun e=>by cases e),(fun _ z hz=>by rw [HY.out] at hz;cases hz;exact hlv),HK.out.drew,hB.drew⟩
  case rest =>
   obtain ⟨bv,rfl,HT,HF,HK2,hB2⟩:=hcut;clear HK hB;generalize wc=wz at *
   cases bv with
   | true =>
    have hlt:=(HT rfl).1;have HL2:Hid (∀ y∈xs.take (k+1),ltN y.hold x.hold=true):=(HT rfl).2;clear HT HF;go_wp2_with fail;go_roundw
    case rel=>exact ⟨k+1,by omega,by go_num,HL2,HK2,hB2⟩
    case measure=>simp [intOf];omega
   | false =>
    have HNO:Hid (∀ y,xs[k]?=some y→ltN y.hold x.hold=false):=HF.out rfl;clear HT HF;obtain ⟨rb,hrb,HRB,HRE⟩:∃ rb:Addr,(if cap=k then some (⟨b,o,none⟩:Addr) else some ⟨b,o+k*4,none⟩)=some rb∧Hid (∀ wy,Below w.heap.size w wy→∀ t u,(An (xs.drop k))[t]?=some u→wy.cell? (rb.add t)=some u)∧Hid (k<xs.length→rb=⟨b,o+k*4,none⟩):=by
     split
     ·refine ⟨_,rfl,fun _ _ t u h=>?_,fun h=>by omega⟩
      rw [List.drop_eq_nil_of_le (by omega)] at h;simp [An] at h
     ·exact ⟨_,rfl,fun wy hy t u h=>by rw [Addr.add_mid];have:=HC0.out wy hy (k*4+t) u (by rw [← Mz xs k t];exact h);rw [Addr.add_mid] at this;rw [Nat.add_assoc];exact this,fun _=>rfl⟩
    go_upto_region 5 with fail;obtain ⟨m,hm⟩:∃ m,m=xs.length - k:=⟨_,rfl⟩;obtain ⟨c1,hc1⟩:∃ c1,c1=cap - k:=⟨_,rfl⟩;rw [← hm,← hc1];have HM:=iH hm;have hm1:m≤1000:=by omega
    have hmc:m≤c1:=by omega
    have HC1x:=iH hc1;clear hm hc1 hrb
    go_cut [37] (fun v wq=>∃ bv:Bool,v=.bool bv∧Hid (bv=true→∃ y,xs[k]?=some y∧y.hold=x.hold)∧Hid (bv=false→∀ y,xs[k]?=some y→y.hold≠x.hold)∧Hid (Blk w.heap.size (aaA x) 52 wq)∧Below w.heap.size w wq)
    case first =>
     by_cases hlt:k<xs.length
     case neg =>
      have hm0:m=0:=by have:=HM.out;omega
      subst hm0;refine wp_region_held_drew (S:=fun wy=>wy=wz.drew) (by kernel_rfl) rfl (fun hS=>?_);refine tz 0 26 (.slice (some rb) 0 c1) rfl hS ?_;simp only [pX];refine tz 1 27 (.int .i64 0) rfl hS ?_;simp only [pX];refine ty 2 ⟨some 28,_,_,_,_,none⟩ (.bool false) rfl (by rfl) ?_ hS ?_
      ·intro wy hy
       clear hy
       (first | (go_simp;done) | (go_simp;omega) | (go_simp;simp;omega))
      simp only [pX];refine tz 3 29 (.bool false) rfl hS ?_;simp only [pX];refine ts 4 30 rfl hS ?_;simp only [pX];refine ts 5 31 rfl hS ?_;simp only [pX];refine ts 6 32 rfl hS ?_;simp only [pX];refine ts 7 33 rfl hS ?_;simp only [pX];refine ts 8 34 rfl hS ?_;simp only [pX];refine ts 9 35 rfl hS ?_;simp only [pX];refine ts 10 36 rfl hS ?_;simp only [pX];refine tz 11 37 (.bool false) rfl hS ?_;simp only [pX];refine td ?_;clear hS;go_wp2_with fail;go_meet;exact ⟨false,rfl,(fun e=>by cases e),(fun _ y hy=>by have:=Ah hy;omega),HK2.out.drew,hB2.drew⟩
     have hrbe:=HRE.out hlt;subst hrbe;have hm0:0<m:=by have:=HM.out;omega
     obtain ⟨y,hy⟩:=gXe hlt;have q0:wz.cell? ⟨b,o+k*4,none⟩=some (.string y.hold):=by obtain ⟨b1,o1,e1,_,_,h1⟩:=(HIN.out.below AksC.holds hB2 nL).at hy;cases e1;simpa using h1.1
     have HY:=iH hy;clear hy;by_cases hyx:y.hold=x.hold
     case pos =>
      have HYX:=iH hyx;have hev:(y.hold.toList == x.hold.toList)=true:=by rw [hyx];simp
      clear hyx;refine wp_region_held_drew (S:=fun wy=>wy=wz.drew) (by kernel_rfl) rfl (fun hS=>?_);refine tz 0 26 (.slice (some ⟨b,o+k*4,none⟩) m c1) rfl hS ?_;simp only [pX];refine tz 1 27 (.int .i64 m) rfl hS ?_;simp only [pX];refine ty 2 ⟨some 28,_,_,_,_,none⟩ (.bool true) rfl (by rfl) ?_ hS ?_
      ·intro wy hy
       clear hy
       (first | (go_simp;done) | (go_simp;omega) | (go_simp;simp;omega))
      simp only [pX];refine tz 3 29 (.bool true) rfl hS ?_;simp only [pX];refine tz 4 30 (.slice (some ⟨b,o+k*4,none⟩) m c1) rfl hS ?_;simp only [pX];refine x0 5 31 (.pointer (some ⟨b,o+k*4,none⟩)) rfl hS ?_;simp only [pX];refine tz 6 32 (.pointer (some ⟨b,o+k*4,none⟩)) rfl hS ?_;simp only [pX];refine tl 7 33 (.string y.hold) ⟨b,o+k*4,none⟩ rfl (fun wy hy=>by rw [hy];exact q0) hS ?_;simp only [pX];refine tz 8 34 (.pointer (some ⟨w.heap.size,0,none⟩)) rfl hS ?_;simp only [pX];refine tl 9 35 (.string x.hold) ⟨w.heap.size,0,none⟩ rfl (fun wy hy=>by rw [hy];exact HK2.out.cell rfl) hS ?_;simp only [pX];refine ty 10 ⟨some 36,_,_,_,_,some (3,true)⟩ (.bool true) rfl (by rfl) ?_ hS ?_
      ·intro wy hy
       clear hy
       (first | (go_simp;done) | (go_simp;rw [hev];done) | (go_simp;simp [hev];done))
      simp only [pX];refine tz 11 37 (.bool true) rfl hS ?_;simp only [pX];refine td ?_;clear hS;go_wp2_with fail;go_meet;exact ⟨true,rfl,(fun _=>⟨y,HY,HYX⟩),(fun e=>by cases e),HK2.out.drew,hB2.drew⟩
     have hev:(y.hold.toList == x.hold.toList)=false:=Lg hyx;refine wp_region_held_drew (S:=fun wy=>wy=wz.drew) (by kernel_rfl) rfl (fun hS=>?_);refine tz 0 26 (.slice (some ⟨b,o+k*4,none⟩) m c1) rfl hS ?_;simp only [pX];refine tz 1 27 (.int .i64 m) rfl hS ?_;simp only [pX];refine ty 2 ⟨some 28,_,_,_,_,none⟩ (.bool true) rfl (by rfl) ?_ hS ?_
     ·intro wy hy
      clear hy
      (first | (go_simp;done) | (go_simp;omega) | (go_simp;simp;omega))
     simp only [pX];refine tz 3 29 (.bool true) rfl hS ?_;simp only [pX];refine tz 4 30 (.slice (some ⟨b,o+k*4,none⟩) m c1) rfl hS ?_;simp only [pX];refine x0 5 31 (.pointer (some ⟨b,o+k*4,none⟩)) rfl hS ?_;simp only [pX];refine tz 6 32 (.pointer (some ⟨b,o+k*4,none⟩)) rfl hS ?_;simp only [pX];refine tl 7 33 (.string y.hold) ⟨b,o+k*4,none⟩ rfl (fun wy hy=>by rw [hy];exact q0) hS ?_;simp only [pX];refine tz 8 34 (.pointer (some ⟨w.heap.size,0,none⟩)) rfl hS ?_;simp only [pX];refine tl 9 35 (.string x.hold) ⟨w.heap.size,0,none⟩ rfl (fun wy hy=>by rw [hy];exact HK2.out.cell rfl) hS ?_;simp only [pX];refine ty 10 ⟨some 36,_,_,_,_,some (3,true)⟩ (.bool false) rfl (by rfl) ?_ hS ?_
     ·intro wy hy
      clear hy
      (first | (go_simp;done) | (go_simp;rw [hev];done) | (go_simp;simp [hev];done))
     simp only [pX];refine tz 11 37 (.bool false) rfl hS ?_;simp only [pX];refine td ?_;clear hS;go_wp2_with fail;go_meet;exact ⟨false,rfl,(fun e=>by cases e),(fun _ z hz=>by rw [HY.out] at hz;cases hz;exact hyx),HK2.out.drew,hB2.drew⟩
    case rest =>
     obtain ⟨bv,rfl,HT,HF,HK3,hB3⟩:=hcut;clear HK2 hB2;generalize wc=wu at *
     go_upto_if 37 with fail
     go_cut [6] (fun v wq=>∃ (rb:Addr) (m c:Nat) (RS:List Aks),v=.slice (some rb) m c∧Hid (m=RS.length)∧m≤1000∧Hid (Az (·.hold) xs x=xs.take k++x::RS)∧Hid (∀ wy,Below w.heap.size w wy→∀ t u,(An RS)[t]?=some u→wy.cell? (rb.add t)=some u)∧Hid (Blk w.heap.size (aaA x) 52 wq)∧Below w.heap.size w wq)
     case first =>
      cases bv with
      | true =>
       obtain ⟨y,hy,hyx⟩:=HT.out rfl;have hlt:=Ah hy;have hrbe:=HRE.out hlt;subst hrbe;have HP:Hid (Az (·.hold) xs x=xs.take k++x::xs.drop (k+1)):=Wz HL hy (HNO y hy) hyx;have hm0:0<m:=by have:=HM.out;omega
       clear hy hyx HT HF;obtain ⟨r2,hr2,HR2⟩:∃ r2:Addr,(if c1=1 then some (⟨b,o+k*4,none⟩:Addr) else some ⟨b,o+k*4+4,none⟩)=some r2∧Hid (∀ wy,Below w.heap.size w wy→∀ t u,(An (xs.drop (k+1)))[t]?=some u→wy.cell? (r2.add t)=some u):=by
        split
        ·refine ⟨_,rfl,fun _ _ t u h=>?_⟩
         rw [List.drop_eq_nil_of_le (by have:=HM.out;omega)] at h;simp [An] at h
        ·refine ⟨_,rfl,fun wy hy t u h=>?_⟩
         rw [Addr.add_mid];have:=HC0.out wy hy ((k+1)*4+t) u (by rw [← Mz xs (k+1) t];exact h);rw [Addr.add_mid] at this;rw [show o+k*4+4+t=o+((k+1)*4+t) by omega];exact this
       go_wp2_with fail;go_meet;exact ⟨r2,m - 1,c1 - 1,xs.drop (k+1),rfl,(by show _=_;rw [List.length_drop];have:=HM.out;omega),(by omega),HP,HR2,HK3,hB3⟩
      | false =>
       have HP:Hid (Az (·.hold) xs x=xs.take k++x::xs.drop k):=Ze HL hk (HNO) (HF rfl);clear HT HF;go_wp2_with fail;go_meet;exact ⟨rb,m,c1,xs.drop k,rfl,(by show _=_;rw [List.length_drop];exact HM.out),hm1,HP,HRB,HK3,hB3⟩
     case rest =>
      clear HT HF HRB HRE HM hm1 hmc HC1x HK3 hB3;obtain ⟨rd,md,cd,RS,rfl,HML,hmd,HP,HC3a,HK4,hB4⟩:=hcut;generalize wc=w4 at *;go_upto_region 7 with fail;have HKd:=iH HK4.out.drew;have hBd:=hB4.drew;clear HK4 hB4;obtain ⟨w1,hw1⟩:∃ w1,w1=w4.drew:=⟨_,rfl⟩;rw [← hw1] at HKd hBd;refine wp_region_held_drew (S:=fun wy=>Below w1.heap.size w1 wy) (by kernel_rfl) (by rw [hw1];exact Below.refl _ _) (fun hS=>?_);generalize w4.drew=wn at *;clear hw1;have HC1:Hid (∀ wy,Below w1.heap.size w1 wy→∀ t u,(An (xs.take k))[t]?=some u→wy.cell? ((⟨b,o,none⟩:Addr).add t)=some u):=fun wy hy t u h=>HC0.out wy (qTr hBd hy) t u (Um xs k t h)
      have HC3:Hid (∀ wy,Below w1.heap.size w1 wy→∀ t u,(An RS)[t]?=some u→wy.cell? ((rd:Addr).add t)=some u):=fun wy hy=>HC3a.out wy (qTr hBd hy)
      have HML2:=HML;have hks:k≤1000:=by omega
      refine tz 1 41 (.slice (some ⟨b,o,none⟩) xs.length cap) rfl hS ?_;simp only [pX];refine tz 2 42 (.int .i64 k) rfl hS ?_;simp only [pX];refine x0 3 43 (.slice (some ⟨b,o,none⟩) k cap) rfl hS ?_;simp only [pX];refine tk 5 ⟨some 45,_,_,_,_,none⟩ (.agg (aaA x)) rfl (yieldsIf_load_mid (by rfl) _ _ rfl w.heap.size (0) rfl (aaL x) _ (fun _ h=>(HKd.out.below h HKd.out.lt).rangeA) Tryz.underlying52 rfl Bu) hS ?_;simp only [pX];refine tz 8 48 (.slice (some rd) md cd) rfl hS ?_;simp only [pX];refine wpAnyH_ready (rs:=[0,6]) (by kernel_rfl) (by simp) (AllReadyH.cons (o:=⟨some 40,_,_,_,_,none⟩) rfl (fun KK hKK=>?_) (AllReadyH.cons (o:=⟨some 46,_,_,_,_,none⟩) rfl (fun KK hKK=>?_) AllReadyH.nil))
      ·skip
       go_simp;have hal:=(Below.refl _ wn).alloc nL (Obj.cells #[] 52);have HR:Hid ((wn.alloc (Obj.cells #[] 52)).ownsRow w1.heap.size 52 4 (.slice (some ⟨wn.heap.size,0,none⟩) 0 0) 0 []):=World.ownsRow_made wn #[] 0 hS.size (zL) rfl;refine hKK.out _ _ (qTr hS hal) (fun hS=>?_);clear hKK KK hal;generalize wn.alloc (Obj.cells #[] 52)=wm at *;generalize wn.heap.size=g1 at *;generalize wm=wn at *;refine wpAnyH_ready (rs:=[4,6]) (by kernel_rfl) (by simp) (AllReadyH.cons (o:=⟨some 44,_,_,_,_,none⟩) rfl (fun KK hKK=>?_) (AllReadyH.cons (o:=⟨some 46,_,_,_,_,none⟩) rfl (fun KK hKK=>?_) AllReadyH.nil))
       ·skip
        have HNN:Hid (∀ t u,(An (xs.take k))[t]?=some u→wn.cell? ((⟨b,o,none⟩:Addr).add t)=some u):=HC1.out wn hS;have hgj:=(HR.out.lt g1 rfl).1;rw [if_pos (by rfl)];refine Ay (.tmp 40) (.tmp 43) 30 (by rfl) w1.heap.size 52 i0 _ 4 48 Tryz.underlying30 HI0 hz0 hz1 hz2 rfl (by decide) _ 0 _ (by rfl) HR ⟨b,o,none⟩ k cap (An (xs.take k)) (by rfl) (by rw [Br];simp;omega) HNN (Bq _) (by unfold maxLen;omega) (by omega) hS.size ?_;intro v' wq hown hgrow hnil hblk;have hv:v'≠.slice none 0 0:=(fun e=>by have h9:=(hnil.1 e).1;cases h9);rw [Nat.zero_add,List.nil_append] at hown;obtain ⟨e1,f1,rfl⟩:=Co hown hv;have hgr:wn.grownBy wq (some g1):=hgrow;have hbe:e1=g1∨e1=wn.heap.size:=by
         rcases hblk with h9 | h9
         ·exact .inl (Option.some.inj h9)
         ·exact .inr (Option.some.inj h9)
        replace HR:=iH hown;have hS2:Below w1.heap.size w1 wq:=hS.grown hgr hS.size (fun t e=>by cases e;exact hgj);refine hKK.out _ _ hS2 (fun hS=>?_);clear hKK KK hown hgrow hnil hblk hv hgr hbe hgj HNN hS2;generalize wq=wn at *;refine rd1 6 ⟨some 46,_,_,_,_,none⟩ rfl (fun KK hKK=>?_);go_simp;have hal:=(Below.refl _ wn).alloc nL (Obj.cells (aaA x) 52);have HK2:=iH (Blk.alloc wn (aaA x) 52);have hn2:wn.heap.size≠e1:=by have h9:=(HR.out.lt e1 rfl).2;omega
        replace HR:=iH (HR.out.alloc (Obj.cells (aaA x) 52));refine hKK.out _ _ (qTr hS hal) (fun hS=>?_);clear hKK KK hal;generalize wn.alloc (Obj.cells (aaA x) 52)=wm at *;generalize wn.heap.size=g2 at *;generalize wm=wn at *;refine rd1 7 ⟨some 47,_,_,_,_,none⟩ rfl (fun KK hKK=>?_);have HNN:Hid (∀ t u,(Db x)[t]?=some u→wn.cell? ((⟨g2,0,none⟩:Addr).add t)=some u):=fun t u hu=>by rw [Addr.add_mid];exact HK2.out.rangeA t u hu
        have hgj:=(HR.out.lt e1 rfl).1;rw [if_pos (by rfl)];refine Ay (.tmp 44) (.tmp 46) 30 (by rfl) w1.heap.size 52 i0 _ 4 48 Tryz.underlying30 HI0 hz0 hz1 hz2 rfl (by decide) _ k _ (by rfl) HR ⟨g2,0,none⟩ 1 1 (Db x) (by rfl) rfl HNN (fun u hu=>Bq [x] u (by simp only [An,List.append_nil];exact hu)) (by unfold maxLen;omega) (by omega) hS.size ?_;intro v' wq hown hgrow hnil hblk;have hv:v'≠.slice none 0 0:=(fun e=>by have h9:=(hnil.1 e).1;cases h9);skip;obtain ⟨e2,f2,rfl⟩:=Co hown hv;have hgr:wn.grownBy wq (some e1):=hgrow;have hbe:e2=e1∨e2=wn.heap.size:=by
         rcases hblk with h9 | h9
         ·exact .inl (Option.some.inj h9)
         ·exact .inr (Option.some.inj h9)
        replace HR:=iH hown;have hS2:Below w1.heap.size w1 wq:=hS.grown hgr hS.size (fun t e=>by cases e;exact hgj);refine hKK.out _ _ hS2 (fun hS=>?_);clear hKK KK hown hgrow hnil hblk hv hgr hbe hgj HNN hS2;generalize wq=wn at *;refine rd1 9 ⟨some 49,_,_,_,_,none⟩ rfl (fun KK hKK=>?_);have HNN:Hid (∀ t u,(An RS)[t]?=some u→wn.cell? ((rd:Addr).add t)=some u):=HC3.out wn hS;have hgj:=(HR.out.lt e2 rfl).1;rw [if_pos (by rfl)];refine Ay (.tmp 47) (.tmp 48) 30 (by rfl) w1.heap.size 52 i0 _ 4 48 Tryz.underlying30 HI0 hz0 hz1 hz2 rfl (by decide) _ (k+1) _ (by rfl) HR rd md cd (An RS) (by rfl) (by rw [Br,← HML2.out]) HNN (Bq _) (by unfold maxLen;omega) (by omega) hS.size ?_;intro v' wq hown hgrow hnil hblk;have hv:v'≠.slice none 0 0:=(fun e=>by have h9:=(hnil.1 e).1;cases h9);skip;obtain ⟨e3,f3,rfl⟩:=Co hown hv;have hgr:wn.grownBy wq (some e2):=hgrow;have hbe:e3=e2∨e3=wn.heap.size:=by
         rcases hblk with h9 | h9
         ·exact .inl (Option.some.inj h9)
         ·exact .inr (Option.some.inj h9)
        replace HR:=iH hown;have hS2:Below w1.heap.size w1 wq:=hS.grown hgr hS.size (fun t e=>by cases e;exact hgj);refine hKK.out _ _ hS2 (fun hS=>?_);clear hKK KK hown hgrow hnil hblk hv hgr hbe hgj HNN hS2;generalize wq=wn at *;have HLN:Hid ((Az (·.hold) xs x).length=k+1+md):=by show _=_;rw [HP.out,List.length_append,List.length_take,List.length_cons,HML2.out];omega
        have HR9:Hid (wn.ownsRow w.heap.size 52 4 (.slice (some ⟨e3,0,none⟩) (Az (·.hold) xs x).length f3) (Az (·.hold) xs x).length (An (Az (·.hold) xs x))):=by
         show World.ownsRow _ _ _ _ _ _ _
         have h9:=ownsRow_base_a HR hBd.size;rw [HLN.out,HP.out,Ds];rw [show An (x::RS)=Db x++An RS from rfl,← List.append_assoc];exact h9
        have hBn:=qTr hBd hS;refine tz 10 4 (.slice (some ⟨e3,0,none⟩) (k+1+md) f3) rfl hS ?_;simp only [pX];refine td ?_;clear hS;go_wp2_with fail;go_ret;exact ⟨e3,f3,by rw [HLN.out];rfl,Cn HR9 (by rw [HLN.out];omega) (fun z hz=>by rcases Dy hz with rfl | hz;exact ⟨by omega,by omega⟩;have:=HZ.out z hz;omega),Ho HR9,hBn⟩
       ·skip
        go_simp;have hal:=(Below.refl _ wn).alloc nL (Obj.cells (aaA x) 52);have HK2:=iH (Blk.alloc wn (aaA x) 52);have hn2:wn.heap.size≠g1:=by have h9:=(HR.out.lt g1 rfl).2;omega
        replace HR:=iH (HR.out.alloc (Obj.cells (aaA x) 52));refine hKK.out _ _ (qTr hS hal) (fun hS=>?_);clear hKK KK hal;generalize wn.alloc (Obj.cells (aaA x) 52)=wm at *;generalize wn.heap.size=g2 at *;generalize wm=wn at *;refine rd1 4 ⟨some 44,_,_,_,_,none⟩ rfl (fun KK hKK=>?_);have HNN:Hid (∀ t u,(An (xs.take k))[t]?=some u→wn.cell? ((⟨b,o,none⟩:Addr).add t)=some u):=HC1.out wn hS;have hgj:=(HR.out.lt g1 rfl).1;rw [if_pos (by rfl)];refine Ay (.tmp 40) (.tmp 43) 30 (by rfl) w1.heap.size 52 i0 _ 4 48 Tryz.underlying30 HI0 hz0 hz1 hz2 rfl (by decide) _ 0 _ (by rfl) HR ⟨b,o,none⟩ k cap (An (xs.take k)) (by rfl) (by rw [Br];simp;omega) HNN (Bq _) (by unfold maxLen;omega) (by omega) hS.size ?_;intro v' wq hown hgrow hnil hblk;have hv:v'≠.slice none 0 0:=(fun e=>by have h9:=(hnil.1 e).1;cases h9);rw [Nat.zero_add,List.nil_append] at hown;obtain ⟨e1,f1,rfl⟩:=Co hown hv;have hgr:wn.grownBy wq (some g1):=hgrow;have hbe:e1=g1∨e1=wn.heap.size:=by
         rcases hblk with h9 | h9
         ·exact .inl (Option.some.inj h9)
         ·exact .inr (Option.some.inj h9)
        have hn4:e1≠g2:=by have h9:=HK2.out.lt;omega
        replace HK2:=iH (Bl HK2 hgr (by omega));replace HR:=iH hown;have hS2:Below w1.heap.size w1 wq:=hS.grown hgr hS.size (fun t e=>by cases e;exact hgj);refine hKK.out _ _ hS2 (fun hS=>?_);clear hKK KK hown hgrow hnil hblk hv hgr hbe hgj HNN hS2;generalize wq=wn at *;refine rd1 7 ⟨some 47,_,_,_,_,none⟩ rfl (fun KK hKK=>?_);have HNN:Hid (∀ t u,(Db x)[t]?=some u→wn.cell? ((⟨g2,0,none⟩:Addr).add t)=some u):=fun t u hu=>by rw [Addr.add_mid];exact HK2.out.rangeA t u hu
        have hgj:=(HR.out.lt e1 rfl).1;rw [if_pos (by rfl)];refine Ay (.tmp 44) (.tmp 46) 30 (by rfl) w1.heap.size 52 i0 _ 4 48 Tryz.underlying30 HI0 hz0 hz1 hz2 rfl (by decide) _ k _ (by rfl) HR ⟨g2,0,none⟩ 1 1 (Db x) (by rfl) rfl HNN (fun u hu=>Bq [x] u (by simp only [An,List.append_nil];exact hu)) (by unfold maxLen;omega) (by omega) hS.size ?_;intro v' wq hown hgrow hnil hblk;have hv:v'≠.slice none 0 0:=(fun e=>by have h9:=(hnil.1 e).1;cases h9);skip;obtain ⟨e2,f2,rfl⟩:=Co hown hv;have hgr:wn.grownBy wq (some e1):=hgrow;have hbe:e2=e1∨e2=wn.heap.size:=by
         rcases hblk with h9 | h9
         ·exact .inl (Option.some.inj h9)
         ·exact .inr (Option.some.inj h9)
        replace HR:=iH hown;have hS2:Below w1.heap.size w1 wq:=hS.grown hgr hS.size (fun t e=>by cases e;exact hgj);refine hKK.out _ _ hS2 (fun hS=>?_);clear hKK KK hown hgrow hnil hblk hv hgr hbe hgj HNN hS2;generalize wq=wn at *;refine rd1 9 ⟨some 49,_,_,_,_,none⟩ rfl (fun KK hKK=>?_);have HNN:Hid (∀ t u,(An RS)[t]?=some u→wn.cell? ((rd:Addr).add t)=some u):=HC3.out wn hS;have hgj:=(HR.out.lt e2 rfl).1;rw [if_pos (by rfl)];refine Ay (.tmp 47) (.tmp 48) 30 (by rfl) w1.heap.size 52 i0 _ 4 48 Tryz.underlying30 HI0 hz0 hz1 hz2 rfl (by decide) _ (k+1) _ (by rfl) HR rd md cd (An RS) (by rfl) (by rw [Br,← HML2.out]) HNN (Bq _) (by unfold maxLen;omega) (by omega) hS.size ?_;intro v' wq hown hgrow hnil hblk;have hv:v'≠.slice none 0 0:=(fun e=>by have h9:=(hnil.1 e).1;cases h9);skip;obtain ⟨e3,f3,rfl⟩:=Co hown hv;have hgr:wn.grownBy wq (some e2):=hgrow;have hbe:e3=e2∨e3=wn.heap.size:=by
         rcases hblk with h9 | h9
         ·exact .inl (Option.some.inj h9)
         ·exact .inr (Option.some.inj h9)
        replace HR:=iH hown;have hS2:Below w1.heap.size w1 wq:=hS.grown hgr hS.size (fun t e=>by cases e;exact hgj);refine hKK.out _ _ hS2 (fun hS=>?_);clear hKK KK hown hgrow hnil hblk hv hgr hbe hgj HNN hS2;generalize wq=wn at *;have HLN:Hid ((Az (·.hold) xs x).length=k+1+md):=by show _=_;rw [HP.out,List.length_append,List.length_take,List.length_cons,HML2.out];omega
        have HR9:Hid (wn.ownsRow w.heap.size 52 4 (.slice (some ⟨e3,0,none⟩) (Az (·.hold) xs x).length f3) (Az (·.hold) xs x).length (An (Az (·.hold) xs x))):=by
         show World.ownsRow _ _ _ _ _ _ _
         have h9:=ownsRow_base_a HR hBd.size;rw [HLN.out,HP.out,Ds];rw [show An (x::RS)=Db x++An RS from rfl,← List.append_assoc];exact h9
        have hBn:=qTr hBd hS;refine tz 10 4 (.slice (some ⟨e3,0,none⟩) (k+1+md) f3) rfl hS ?_;simp only [pX];refine td ?_;clear hS;go_wp2_with fail;go_ret;exact ⟨e3,f3,by rw [HLN.out];rfl,Cn HR9 (by rw [HLN.out];omega) (fun z hz=>by rcases Dy hz with rfl | hz;exact ⟨by omega,by omega⟩;have:=HZ.out z hz;omega),Ho HR9,hBn⟩
      ·skip
       go_simp;have hal:=(Below.refl _ wn).alloc nL (Obj.cells (aaA x) 52);have HK2:=iH (Blk.alloc wn (aaA x) 52);refine hKK.out _ _ (qTr hS hal) (fun hS=>?_);clear hKK KK hal;generalize wn.alloc (Obj.cells (aaA x) 52)=wm at *;generalize wn.heap.size=g2 at *;generalize wm=wn at *;refine rd1 0 ⟨some 40,_,_,_,_,none⟩ rfl (fun KK hKK=>?_);go_simp;have hal:=(Below.refl _ wn).alloc nL (Obj.cells #[] 52);have HR:Hid ((wn.alloc (Obj.cells #[] 52)).ownsRow w1.heap.size 52 4 (.slice (some ⟨wn.heap.size,0,none⟩) 0 0) 0 []):=World.ownsRow_made wn #[] 0 hS.size (zL) rfl;have hn2:g2≠wn.heap.size:=by have h9:=HK2.out.lt;omega
       replace HK2:=qBk HK2 hal;refine hKK.out _ _ (qTr hS hal) (fun hS=>?_);clear hKK KK hal;generalize wn.alloc (Obj.cells #[] 52)=wm at *;generalize wn.heap.size=g1 at *;generalize wm=wn at *;refine rd1 4 ⟨some 44,_,_,_,_,none⟩ rfl (fun KK hKK=>?_);have HNN:Hid (∀ t u,(An (xs.take k))[t]?=some u→wn.cell? ((⟨b,o,none⟩:Addr).add t)=some u):=HC1.out wn hS;have hgj:=(HR.out.lt g1 rfl).1;rw [if_pos (by rfl)];refine Ay (.tmp 40) (.tmp 43) 30 (by rfl) w1.heap.size 52 i0 _ 4 48 Tryz.underlying30 HI0 hz0 hz1 hz2 rfl (by decide) _ 0 _ (by rfl) HR ⟨b,o,none⟩ k cap (An (xs.take k)) (by rfl) (by rw [Br];simp;omega) HNN (Bq _) (by unfold maxLen;omega) (by omega) hS.size ?_;intro v' wq hown hgrow hnil hblk;have hv:v'≠.slice none 0 0:=(fun e=>by have h9:=(hnil.1 e).1;cases h9);rw [Nat.zero_add,List.nil_append] at hown;obtain ⟨e1,f1,rfl⟩:=Co hown hv;have hgr:wn.grownBy wq (some g1):=hgrow;have hbe:e1=g1∨e1=wn.heap.size:=by
        rcases hblk with h9 | h9
        ·exact .inl (Option.some.inj h9)
        ·exact .inr (Option.some.inj h9)
       have hn4:e1≠g2:=by have h9:=HK2.out.lt;omega
       replace HK2:=iH (Bl HK2 hgr (by omega));replace HR:=iH hown;have hS2:Below w1.heap.size w1 wq:=hS.grown hgr hS.size (fun t e=>by cases e;exact hgj);refine hKK.out _ _ hS2 (fun hS=>?_);clear hKK KK hown hgrow hnil hblk hv hgr hbe hgj HNN hS2;generalize wq=wn at *;refine rd1 7 ⟨some 47,_,_,_,_,none⟩ rfl (fun KK hKK=>?_);have HNN:Hid (∀ t u,(Db x)[t]?=some u→wn.cell? ((⟨g2,0,none⟩:Addr).add t)=some u):=fun t u hu=>by rw [Addr.add_mid];exact HK2.out.rangeA t u hu
       have hgj:=(HR.out.lt e1 rfl).1;rw [if_pos (by rfl)];refine Ay (.tmp 44) (.tmp 46) 30 (by rfl) w1.heap.size 52 i0 _ 4 48 Tryz.underlying30 HI0 hz0 hz1 hz2 rfl (by decide) _ k _ (by rfl) HR ⟨g2,0,none⟩ 1 1 (Db x) (by rfl) rfl HNN (fun u hu=>Bq [x] u (by simp only [An,List.append_nil];exact hu)) (by unfold maxLen;omega) (by omega) hS.size ?_;intro v' wq hown hgrow hnil hblk;have hv:v'≠.slice none 0 0:=(fun e=>by have h9:=(hnil.1 e).1;cases h9);skip;obtain ⟨e2,f2,rfl⟩:=Co hown hv;have hgr:wn.grownBy wq (some e1):=hgrow;have hbe:e2=e1∨e2=wn.heap.size:=by
        rcases hblk with h9 | h9
        ·exact .inl (Option.some.inj h9)
        ·exact .inr (Option.some.inj h9)
       replace HR:=iH hown;have hS2:Below w1.heap.size w1 wq:=hS.grown hgr hS.size (fun t e=>by cases e;exact hgj);refine hKK.out _ _ hS2 (fun hS=>?_);clear hKK KK hown hgrow hnil hblk hv hgr hbe hgj HNN hS2;generalize wq=wn at *;refine rd1 9 ⟨some 49,_,_,_,_,none⟩ rfl (fun KK hKK=>?_);have HNN:Hid (∀ t u,(An RS)[t]?=some u→wn.cell? ((rd:Addr).add t)=some u):=HC3.out wn hS;have hgj:=(HR.out.lt e2 rfl).1;rw [if_pos (by rfl)];refine Ay (.tmp 47) (.tmp 48) 30 (by rfl) w1.heap.size 52 i0 _ 4 48 Tryz.underlying30 HI0 hz0 hz1 hz2 rfl (by decide) _ (k+1) _ (by rfl) HR rd md cd (An RS) (by rfl) (by rw [Br,← HML2.out]) HNN (Bq _) (by unfold maxLen;omega) (by omega) hS.size ?_;intro v' wq hown hgrow hnil hblk;have hv:v'≠.slice none 0 0:=(fun e=>by have h9:=(hnil.1 e).1;cases h9);skip;obtain ⟨e3,f3,rfl⟩:=Co hown hv;have hgr:wn.grownBy wq (some e2):=hgrow;have hbe:e3=e2∨e3=wn.heap.size:=by
        rcases hblk with h9 | h9
        ·exact .inl (Option.some.inj h9)
        ·exact .inr (Option.some.inj h9)
       replace HR:=iH hown;have hS2:Below w1.heap.size w1 wq:=hS.grown hgr hS.size (fun t e=>by cases e;exact hgj);refine hKK.out _ _ hS2 (fun hS=>?_);clear hKK KK hown hgrow hnil hblk hv hgr hbe hgj HNN hS2;generalize wq=wn at *;have HLN:Hid ((Az (·.hold) xs x).length=k+1+md):=by show _=_;rw [HP.out,List.length_append,List.length_take,List.length_cons,HML2.out];omega
       have HR9:Hid (wn.ownsRow w.heap.size 52 4 (.slice (some ⟨e3,0,none⟩) (Az (·.hold) xs x).length f3) (Az (·.hold) xs x).length (An (Az (·.hold) xs x))):=by
        show World.ownsRow _ _ _ _ _ _ _
        have h9:=ownsRow_base_a HR hBd.size;rw [HLN.out,HP.out,Ds];rw [show An (x::RS)=Db x++An RS from rfl,← List.append_assoc];exact h9
       have hBn:=qTr hBd hS;refine tz 10 4 (.slice (some ⟨e3,0,none⟩) (k+1+md) f3) rfl hS ?_;simp only [pX];refine td ?_;clear hS;go_wp2_with fail;go_ret;exact ⟨e3,f3,by rw [HLN.out];rfl,Cn HR9 (by rw [HLN.out];omega) (fun z hz=>by rcases Dy hz with rfl | hz;exact ⟨by omega,by omega⟩;have:=HZ.out z hz;omega),Ho HR9,hBn⟩
end Go.Proofs.YtkiloaiffopllaaGreat
